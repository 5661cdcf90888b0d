import Derived.Test.YtnmhkgmmpkjjeaaG06
import Derived.Test.YtnmhkgmmpkjjeaaG04
import Derived.Test.YtnmhkgmmpkjjeaaG07
import Derived.Laws.Cover3
import Derived.Outline
import Derived.Laws.BitsLemmas
namespace Go.Proofs.Ytnmhkgmmpkjjeaa
open Go.ChangeShapes Go.WideShapes Go.ChangeAt Go.RowKit
set_option linter.unusedVariables false
def pageOk (p:Int):Bool:=decide (0<=p) && decide (p < 4096)
def choiceOk (c:Int):Bool:=decide (0<=c) && decide (c<=65535)
def bitI (c:Int) (b:Nat):Bool:=decide (c / 2 ^ b % 2=1)
def idx (page level:Int):Int:=if level=1 then page / 256 else if level=2 then page / 16 % 16 else page % 16
theorem pageOk_any (p:Int) (w:World) :
  Calls Try.prog 41 #[.int .i64 p] w fun e w'=>e=.returned (.bool (pageOk p))/\w'=w:=by
 unfold pageOk
 by_cases h:0<=p
 ·have h':decide (0<=p)=true:=by simpa using h
  rw [h']
  by_cases k:p < 4096
  ·have k':decide (p < 4096)=true:=by simpa using k
   rw [k']
   go_enter Try.func41,Try.ntmps41
   go_wp2
   go_ret
   exact ⟨rfl,rfl⟩
  ·have k':decide (p < 4096)=false:=by simpa using k
   rw [k']
   go_enter Try.func41,Try.ntmps41
   go_wp2
   go_ret
   exact ⟨rfl,rfl⟩
 ·have h':decide (0<=p)=false:=by simpa using h
  rw [h']
  go_enter Try.func41,Try.ntmps41
  go_wp2
  go_ret
  exact ⟨rfl,rfl⟩
theorem choiceBit_any (c:Int) (b:Nat) (hc0:0<=c) (hc1:c<=65535) (hb:b<=100) (w:World) :
  Calls Try.prog 162 #[.int .i64 c,.int .i64 b] w fun e w'=>e=.returned (.bool (bitI c b))/\w'=w:=by
 go_enter Try.func162,Try.ntmps162
 go_wp2
 go_loop [0,5] (fun x i=>∃ k:Nat,k<=b/\i=.int .i64 k/\x=.int .i64 (c / 2 ^ k)) (fun _ i=>b - (intOf i).toNat)
 case atStart=>exact ⟨0,Nat.zero_le _,rfl,by simp⟩
 case round =>
  obtain ⟨k,hk,rfl,rfl⟩:=hrel
  have hp:(0:Int) < 2 ^ k:=Int.pow_pos (by omega)
  have h0:0<=c / 2 ^ k:=Int.ediv_nonneg hc0 (by omega)
  have h1:c / 2 ^ k<=c:=Int.ediv_le_self _ hc0
  have hst:c / 2 ^ k / 2=c / 2 ^ (k+1):=by
   rw [Int.ediv_ediv_of_nonneg (by omega),Int.pow_succ]
  by_cases hlt:k < b
  ·have HST:Hid _:=hst
   clear hst hp
   generalize c / 2 ^ k=X at *
   go_wp2
   go_round
   case rel=>exact ⟨k+1,by omega,by go_num,by rw [<- HST.out]⟩
   case measure=>simp [intOf]; omega
  ·have e:k=b:=by omega
   subst e
   clear hst hp
   by_cases hX:c / 2 ^ k % 2=1
   ·have hX':(c / 2 ^ k % 2 == 1)=true:=by simpa using hX
    have hv:bitI c k=true:=by simpa [bitI] using hX
    have HV:Hid _:=hv
    clear hX hv
    generalize c / 2 ^ k=X at *
    go_wp2
    go_ret
    exact ⟨by rw [HV.out]; rfl,rfl⟩
   ·have hX':(c / 2 ^ k % 2 == 1)=false:=by simpa using hX
    have hv:bitI c k=false:=by simpa [bitI] using hX
    have HV:Hid _:=hv
    clear hX hv
    generalize c / 2 ^ k=X at *
    go_wp2
    go_ret
    exact ⟨by rw [HV.out]; rfl,rfl⟩
theorem index_any (p l:Int) (hp0:0<=p) (hp1:p < 4096) (w:World) :
  Calls Try.prog 97 #[.int .i64 p,.int .i64 l] w fun e w'=>e=.returned (.int .i64 (idx p l))/\w'=w:=by
 by_cases h1:l=1
 ·subst h1
  go_enter Try.func97,Try.ntmps97
  go_wp2
  go_ret
  exact ⟨rfl,rfl⟩
 ·by_cases h2:l=2
  ·subst h2
   go_enter Try.func97,Try.ntmps97
   go_wp2
   go_ret
   exact ⟨rfl,rfl⟩
  ·have e:idx p l=p % 16:=by simp [idx,h1,h2]
   rw [e]
   have h1':(l == 1)=false:=by simpa using h1
   have h2':(l == 2)=false:=by simpa using h2
   clear e h1 h2
   go_enter Try.func97,Try.ntmps97
   go_wp2
   go_ret
   exact ⟨rfl,rfl⟩
theorem idx_bd (p l:Int) (hp0:0<=p) (hp1:p < 4096):0<=idx p l/\idx p l < 16:=by
 unfold idx
 by_cases a:l=1 <;> by_cases b:l=2 <;> simp [a,b] <;> omega
def tlbOkB (e:TlbE):Bool:=(decide (e.size=1) || decide (e.size=16)) && pageOk e.page && decide (e.page % e.size=0) && decide (1<=e.perm) && decide (e.perm<=7) && decide (0<=e.out) && decide (e.out < 65536) && decide (e.out % e.size=0)
def wcOkB (n:Int) (e:WcE):Bool:=(decide (e.level=2) || decide (e.level=3)) && pageOk e.page && decide (e.page % cov (e.level - 1)=0) && decide (0<=e.table) && decide (e.table < n)
def sameB (a b:TlbE):Bool:=decide (a.page=b.page) && decide (a.size=b.size) && decide (a.out=b.out) && decide (a.perm=b.perm)
def tlbCov (e:TlbE) (p:Int):Bool:=decide (p - p % e.size=e.page)
def wcCov (e:WcE) (p:Int):Bool:=decide (p - p % cov (e.level - 1)=e.page)
def tlbV (e:TlbE):Value:=.agg #[.int .i64 e.page,.int .i64 e.size,.int .i64 e.out,.int .i64 e.perm,.bool e.doom]
def wcV (e:WcE):Value:=.agg #[.int .i64 e.level,.int .i64 e.page,.int .i64 e.table,.bool e.doom]
theorem sameEntry_any (a b:TlbE) (w:World) :
  Calls Try.prog 207 #[.agg #[.int .i64 a.page,.int .i64 a.size,.int .i64 a.out,.int .i64 a.perm,.bool a.doom],.agg #[.int .i64 b.page,.int .i64 b.size,.int .i64 b.out,.int .i64 b.perm,.bool b.doom]] w fun e w'=>e=.returned (.bool (sameB a b))/\Below w.heap.size w w':=by
 unfold sameB
 obtain ⟨a1,a2,a3,a4,a5⟩:=a
 obtain ⟨b1,b2,b3,b4,b5⟩:=b
 simp only
 by_cases h1:a1=b1
 ·subst h1
  by_cases h2:a2=b2
  ·subst h2
   by_cases h3:a3=b3
   ·subst h3
    by_cases h4:a4=b4
    ·subst h4
     simp only [decide_true,Bool.and_self]
     go_enter Try.func207,Try.ntmps207
     go_wp2
     go_ret
     exact ⟨rfl,((Below.refl _ _).alloc (Nat.le_refl _) _).alloc (by simp) _⟩
    ·have h4':(a4 == b4)=false:=by simpa using h4
     simp only [h4,decide_true,decide_false,Bool.and_self,Bool.and_false]
     clear h4
     go_enter Try.func207,Try.ntmps207
     go_wp2
     go_ret
     exact ⟨rfl,((Below.refl _ _).alloc (Nat.le_refl _) _).alloc (by simp) _⟩
   ·have h3':(a3 == b3)=false:=by simpa using h3
    simp only [h3,decide_true,decide_false,Bool.and_self,Bool.and_false,Bool.false_and]
    clear h3
    go_enter Try.func207,Try.ntmps207
    go_wp2
    go_ret
    exact ⟨rfl,((Below.refl _ _).alloc (Nat.le_refl _) _).alloc (by simp) _⟩
  ·have h2':(a2 == b2)=false:=by simpa using h2
   simp only [h2,decide_true,decide_false,Bool.and_false,Bool.false_and]
   clear h2
   go_enter Try.func207,Try.ntmps207
   go_wp2
   go_ret
   exact ⟨rfl,((Below.refl _ _).alloc (Nat.le_refl _) _).alloc (by simp) _⟩
 ·have h1':(a1 == b1)=false:=by simpa using h1
  simp only [h1,decide_false,Bool.false_and]
  clear h1
  go_enter Try.func207,Try.ntmps207
  go_wp2
  go_ret
  exact ⟨rfl,((Below.refl _ _).alloc (Nat.le_refl _) _).alloc (by simp) _⟩
end Go.Proofs.Ytnmhkgmmpkjjeaa
namespace Go.Proofs.Ytnmhkgmmpkjjeaa
open Go.ChangeShapes Go.WideShapes Go.ChangeAt Go.RowKit
set_option linter.unusedVariables false
attribute [local go_sem ↓] Go.wp_at_zero Go.wp_at_succ
structure OkMem (zs:List Int):Prop where
 n0:nfr zs.length ≠ 0
 rng:∀ i,0<=zs.getD i 0/\zs.getD i 0 < 2 ^ 64
def OkP (zs:List Int) (d:Nat) (p:P3):Prop:=p.lv+d=3/\1<=p.lv/\0<=p.fr/\p.fr < nfr zs.length/\0<=p.pg/\p.pg<=4096 * p.lv
theorem okP_under {zs:List Int} {d:Nat} {p:P3} (h:OkP zs (d+1) p) (i:Nat) (hi:i < 16) (hl:leads zs (nfr zs.length) p i=true):OkP zs d (under zs p i):=by
 obtain ⟨a,b,c,e,f,g⟩:=h
 simp only [leads,Bool.and_eq_true,decide_eq_true_eq] at hl
 have ho:=dOut_lo p.lv (wordAt zs p.fr i)
 have hc:=cov_bd p.lv
 have y0:0<=(i:Int) * cov p.lv:=Int.mul_nonneg (by omega) hc.1
 have y1:(i:Int) * cov p.lv<=15 * 256:=Int.mul_le_mul (by omega) hc.2 hc.1 (by omega)
 refine ⟨?_,?_,ho.1,hl.2,?_,?_⟩
 ·show p.lv+1+d=3; omega
 ·show 1<=p.lv+1; omega
 ·show 0<=p.pg+i * cov p.lv; omega
 ·show p.pg+i * cov p.lv<=4096 * (p.lv+1); omega
theorem belowL_ok {zs:List Int}:∀ (d:Nat) (p:P3),OkP zs d p->∀ q ∈ belowL zs (nfr zs.length) d p,∃ d',OkP zs d' q
 | 0,p,h=>by intro q hq; simp [belowL] at hq; subst hq; exact ⟨0,h⟩
 | d+1,p,h=>by
  intro q hq
  simp only [belowL,downs,List.mem_cons,List.mem_flatMap,List.mem_range] at hq
  rcases hq with rfl | ⟨i,hi,hq⟩
  ·exact ⟨d+1,h⟩
  ·by_cases hl:leads zs (nfr zs.length) p i=true
   ·rw [if_pos hl] at hq
    exact belowL_ok d _ (okP_under h i hi hl) q hq
   ·rw [if_neg hl] at hq
    simp at hq
theorem specBelow_any (g:Nat) (zs:List Int) (c:Nat) (hz:OkMem zs):∀ (d:Nat),d<=2->∀ (p:P3) (w:World),OkP zs d p->CRow w g zs ->
  Calls Try.prog 40 #[.agg #[.slice (some ⟨g,0,none⟩) zs.length c],.agg #[.int .i64 p.fr,.int .i64 p.lv,.int .i64 p.pg]] w fun e w'=>∃ a c,e=.returned (.slice a (belowL zs (nfr zs.length) d p).length c)/\PRow w' w.heap.size (.slice a (belowL zs (nfr zs.length) d p).length c) (belowL zs (nfr zs.length) d p)/\Below w.heap.size w w'
 | 0,_,p,w,hp,hg=>below_leaf g zs.length c p (by have:=hp.1; omega) w
 | d+1,hd,p,w,hp,hg=>by
  have hm:=nfr_mul zs.length hz.n0
  have hle:=nfr_le zs.length
  have hp':=hp
  obtain ⟨a,b,c1,e,f,g1⟩:=hp'
  refine below_step g zs c d p p.fr.toNat (by omega) (by omega) (by omega) b (by omega) f g1 (belowL zs (nfr zs.length) d) ?_ (nfr zs.length) rfl ?_ ?_ w hg
  ·intro q
   have:=belowL_length zs (nfr zs.length) d q
   have:bnd d<=17:=by
    rcases (show d=0\/d=1 by omega) with rfl | rfl <;> decide
   omega
  ·intro i hi w
   have:=hz.rng ((p.fr * 16).toNat+i)
   exact specDecode_any p.lv (wordAt zs p.fr i) this.1 this.2 w
  ·intro i w hi hl hg
   exact specBelow_any g zs c hz d (by omega) (under zs p i) w (okP_under hp i hi hl) hg
def plist (zs:List Int):List P3:=if nfr zs.length=0 then [] else belowL zs (nfr zs.length) 2 ⟨0,1,0⟩
def ptree (zs:List Int):Bool:=!decide (nfr zs.length=0) && treeTo zs (nfr zs.length) (plist zs) (plist zs).length
theorem plist_length (zs:List Int):(plist zs).length<=273:=by
 unfold plist
 split
 ·simp
 ·exact belowL_length zs _ 2 _
theorem specPlaces_no (g:Nat) (n c:Nat) (hn:n<=1048576) (h0:nfr n=0) (w:World) :
  Calls Try.prog 10 #[.agg #[.slice (some ⟨g,0,none⟩) n c]] w fun e w'=>∃ a c',e=.returned (.tuple #[.slice a 0 c',.bool false])/\PRow w' w.heap.size (.slice a 0 c') []/\Below w.heap.size w w':=by
 have hf:=frames_any (some ⟨g,0,none⟩) n c (by omega)
 rw [h0] at hf
 go_enter Try.func10,Try.ntmps10
 go_wp2_with (go_at_call 39; refine (hf _).mono ?_; rintro e w1 ⟨rfl,hb1⟩)
 go_ret2
 have hs:=hb1.size
 simp at hs
 exact ⟨_,_,rfl,⟨rfl,.inr ⟨w1.heap.size,0,#[],rfl,by omega,heap_alloc_new w1 _,Nat.le_refl _,by unfold maxLen; omega,rfl,rfl⟩⟩,(((Below.refl _ _).alloc (Nat.le_refl _) _).trans (hb1.mono (by simp))).alloc (by omega) _⟩
end Go.Proofs.Ytnmhkgmmpkjjeaa
namespace Go.Proofs.Ytnmhkgmmpkjjeaa
open Go.ChangeShapes Go.WideShapes Go.ChangeAt Go.RowKit
set_option linter.unusedVariables false
attribute [local go_sem ↓] Go.wp_at_zero Go.wp_at_succ
theorem valid_any (a:Option Addr) (m c:Nat) (hm:m<=17592186044416) (w:World) :
  Calls Try.prog 71 #[.agg #[.slice a m c]] w fun e w'=>e=.returned (.bool (!decide (nfr m=0)))/\Below w.heap.size w w':=by
 by_cases h1:m < 16
 ·have e:nfr m=0:=by unfold nfr; rw [if_pos (.inl h1)]
  simp only [e,decide_true,Bool.not_true]
  have h1':decide ((16:Int)<=m)=false:=by simp; omega
  clear e
  go_enter Try.func71,Try.ntmps71
  go_wp2
  go_ret
  exact ⟨rfl,(Below.refl _ _).alloc (Nat.le_refl _) _⟩
 ·by_cases h2:8192 < m
  ·have e:nfr m=0:=by unfold nfr; rw [if_pos (.inr (.inl h2))]
   simp only [e,decide_true,Bool.not_true]
   have h1':decide ((16:Int)<=m)=true:=by simp; omega
   have h2':decide ((m:Int)<=8192)=false:=by simp; omega
   clear e
   go_enter Try.func71,Try.ntmps71
   go_wp2
   go_ret
   exact ⟨rfl,(Below.refl _ _).alloc (Nat.le_refl _) _⟩
  ·have h1':decide ((16:Int)<=m)=true:=by simp; omega
   have h2':decide ((m:Int)<=8192)=true:=by simp; omega
   by_cases h3:m % 16=0
   ·have e:¬ nfr m=0:=by unfold nfr; rw [if_neg (by omega)]; omega
    simp only [e,decide_false,Bool.not_false]
    have h3':((m:Int) % 16 == 0)=true:=by simp; omega
    clear e
    go_enter Try.func71,Try.ntmps71
    go_wp2
    go_ret
    exact ⟨rfl,(Below.refl _ _).alloc (Nat.le_refl _) _⟩
   ·have e:nfr m=0:=by unfold nfr; rw [if_pos (.inr (.inr h3))]
    simp only [e,decide_true,Bool.not_true]
    have h3':((m:Int) % 16 == 0)=false:=by simp; omega
    clear e
    go_enter Try.func71,Try.ntmps71
    go_wp2
    go_ret
    exact ⟨rfl,(Below.refl _ _).alloc (Nat.le_refl _) _⟩
theorem hasFrame_any (a:Option Addr) (m c:Nat) (o n:Int) (hn:n * 16=m) (ho:0<=o) (hm:m<=8192) (w:World) :
  Calls Try.prog 107 #[.agg #[.slice a m c],.int .i64 o] w fun e w'=>e=.returned (.bool (decide (o < n)))/\Below w.heap.size w w':=by
 have e1:(m:Int) / 16=n:=by omega
 have h0:decide (0<=o)=true:=by simpa using ho
 by_cases h:o < n
 ·have h1:decide (o < (m:Int) / 16)=true:=by rw [e1]; simpa using h
  simp only [h,decide_true]
  clear e1 h
  go_enter Try.func107,Try.ntmps107
  go_wp2
  go_ret
  exact ⟨rfl,(Below.refl _ _).alloc (Nat.le_refl _) _⟩
 ·have h1:decide (o < (m:Int) / 16)=false:=by rw [e1]; simpa using h
  simp only [h,decide_false]
  clear e1 h
  go_enter Try.func107,Try.ntmps107
  go_wp2
  go_ret
  exact ⟨rfl,(Below.refl _ _).alloc (Nat.le_refl _) _⟩
theorem entryPages_any (l:Int) (w:World) :
  Calls Try.prog 148 #[.int .i64 l] w fun e w'=>e=.returned (.int .i64 (cov l))/\w'=w:=by
 by_cases h1:l=1
 ·subst h1
  go_enter Try.func148,Try.ntmps148
  go_wp2
  go_ret
  exact ⟨rfl,rfl⟩
 ·by_cases h2:l=2
  ·subst h2
   go_enter Try.func148,Try.ntmps148
   go_wp2
   go_ret
   exact ⟨rfl,rfl⟩
  ·have e:cov l=1:=by simp [cov,h1,h2]
   rw [e]
   have h1':(l == 1)=false:=by simpa using h1
   have h2':(l == 2)=false:=by simpa using h2
   clear e h1 h2
   go_enter Try.func148,Try.ntmps148
   go_wp2
   go_ret
   exact ⟨rfl,rfl⟩
theorem tablePages_any (l:Int) (w:World) :
  Calls Try.prog 102 #[.int .i64 l] w fun e w'=>e=.returned (.int .i64 (16 * cov l))/\w'=w:=by
 have hc:=entryPages_any l
 have hb:=cov_bd l
 generalize cov l=C at *
 go_enter Try.func102,Try.ntmps102
 go_wp2_with (go_at_call 148; refine (hc _).mono ?_; rintro e w1 ⟨rfl,rfl⟩)
 go_ret
 exact ⟨rfl,rfl⟩
set_option maxRecDepth 100000 in
set_option maxHeartbeats 1000000 in
theorem tableAt_any (g:Nat) (zs:List Int) (c F:Nat) (hF:F * 16+16<=zs.length) (hlen:zs.length<=8192) (hc:zs.length<=c) (w:World) (hg:CRow w g zs) :
  Calls Try.prog 161 #[.agg #[.slice (some ⟨g,0,none⟩) zs.length c],.int .i64 F] w fun e w'=>(∃ T:Array Value,e=.returned (.agg T)/\T.size=16/\∀ k,k < 16->T[k]?=some (.int .u64 (zs.getD (F * 16+k) 0)))/\Below w.heap.size w w':=by
 have a1:(0:Int)<=F * 16:=by omega
 have a2:(F:Int) * 16<=(F+1) * 16:=by omega
 have a3:((F:Int)+1) * 16<=c:=by omega
 have hgl:=hg.lt
 have hat:∀ w,(Instr.arrayAt 226 (.slice (some ⟨g,F * 16,none⟩) ((F+1) * 16 - F * 16) (c - F * 16))).run Try.prog w=.ok (.pointer (some ⟨g,F * 16,none⟩)) w:=fun w=>run_arrayAt w 226 _ 16 _ _ _ Try.underlying226 (by omega)
 have w0:=hg.cell (i:=F * 16) (by omega)
 have w1:=hg.cell (i:=F * 16+1) (by omega)
 have w2:=hg.cell (i:=F * 16+2) (by omega)
 have w3:=hg.cell (i:=F * 16+3) (by omega)
 have w4:=hg.cell (i:=F * 16+4) (by omega)
 have w5:=hg.cell (i:=F * 16+5) (by omega)
 have w6:=hg.cell (i:=F * 16+6) (by omega)
 have w7:=hg.cell (i:=F * 16+7) (by omega)
 have w8:=hg.cell (i:=F * 16+8) (by omega)
 have w9:=hg.cell (i:=F * 16+9) (by omega)
 have w10:=hg.cell (i:=F * 16+10) (by omega)
 have w11:=hg.cell (i:=F * 16+11) (by omega)
 have w12:=hg.cell (i:=F * 16+12) (by omega)
 have w13:=hg.cell (i:=F * 16+13) (by omega)
 have w14:=hg.cell (i:=F * 16+14) (by omega)
 have w15:=hg.cell (i:=F * 16+15) (by omega)
 clear hg
 go_enter Try.func161,Try.ntmps161
 go_wp2
 refine bodyPost_ret (v:=.agg #[.int .u64 (zs.getD (F * 16+0) 0),.int .u64 (zs.getD (F * 16+1) 0),.int .u64 (zs.getD (F * 16+2) 0),.int .u64 (zs.getD (F * 16+3) 0),.int .u64 (zs.getD (F * 16+4) 0),.int .u64 (zs.getD (F * 16+5) 0),.int .u64 (zs.getD (F * 16+6) 0),.int .u64 (zs.getD (F * 16+7) 0),.int .u64 (zs.getD (F * 16+8) 0),.int .u64 (zs.getD (F * 16+9) 0),.int .u64 (zs.getD (F * 16+10) 0),.int .u64 (zs.getD (F * 16+11) 0),.int .u64 (zs.getD (F * 16+12) 0),.int .u64 (zs.getD (F * 16+13) 0),.int .u64 (zs.getD (F * 16+14) 0),.int .u64 (zs.getD (F * 16+15) 0)]) (by simp [results,Try.results161,go_sem]) rfl ⟨⟨_,rfl,rfl,?_⟩,((Below.refl _ _).alloc (Nat.le_refl _) _).alloc (by simp) _⟩
 intro k hk
 match k,hk with
 | 0,_=>rfl
 | 1,_=>rfl
 | 2,_=>rfl
 | 3,_=>rfl
 | 4,_=>rfl
 | 5,_=>rfl
 | 6,_=>rfl
 | 7,_=>rfl
 | 8,_=>rfl
 | 9,_=>rfl
 | 10,_=>rfl
 | 11,_=>rfl
 | 12,_=>rfl
 | 13,_=>rfl
 | 14,_=>rfl
 | 15,_=>rfl
 | k+16,h=>omega
end Go.Proofs.Ytnmhkgmmpkjjeaa
namespace Go.Proofs.Ytnmhkgmmpkjjeaa
open Go.ChangeShapes Go.WideShapes Go.ChangeAt Go.RowKit
set_option linter.unusedVariables false
attribute [local go_sem ↓] Go.wp_at_zero Go.wp_at_succ
theorem and_i64 (a k:Nat) (ha:a < 65536) (hk:k < 16):bits .and .i64 (a:Int) ((2 ^ k:Nat):Int)=((a / 2 ^ k % 2 * 2 ^ k:Nat):Int):=by
 have hb:2 ^ k < 2 ^ 16:=Nat.pow_lt_pow_right (by omega) hk
 have h1:(BitVec.ofInt 64 (a:Int)).toNat=a:=by
  rw [BitVec.ofInt_natCast,BitVec.toNat_ofNat]; exact Nat.mod_eq_of_lt (by omega)
 have h2:(BitVec.ofInt 64 ((2 ^ k:Nat):Int)).toNat=2 ^ k:=by
  rw [BitVec.ofInt_natCast,BitVec.toNat_ofNat]; exact Nat.mod_eq_of_lt (by omega)
 show IntKind.i64.wrap ((BitVec.ofInt 64 (a:Int) &&& BitVec.ofInt 64 ((2 ^ k:Nat):Int)).toNat:Int)=_
 have h3:=nat_and_mask a k 1
 rw [show (2 ^ 1 - 1) * 2 ^ k=2 ^ k by omega,show (2:Nat) ^ 1=2 from rfl] at h3
 rw [BitVec.toNat_and,h1,h2,h3,IntKind.wrap_i64]
 rcases Nat.mod_two_eq_zero_or_one (a / 2 ^ k) with h | h <;> rw [h] <;> omega
theorem has_any (c:Int) (k:Nat) (B:Int) (hB:B=((2 ^ k:Nat):Int)) (hk:k < 16) (hc0:0<=c) (hc1:c<=65535) (w:World) :
  Calls Try.prog 112 #[.int .i64 c,.int .i64 B] w fun e w'=>e=.returned (.bool (bitI c k))/\w'=w:=by
 obtain ⟨a,rfl⟩:=Int.eq_ofNat_of_zero_le hc0
 have h:=and_i64 a k (by omega) hk
 rw [<- hB] at h
 have hpos:0 < 2 ^ k:=Nat.pow_pos (by omega)
 have e:((a:Int) / 2 ^ k % 2=1) ↔ a / 2 ^ k % 2=1:=by
  rw [show (2:Int) ^ k=((2 ^ k:Nat):Int) by simp]
  omega
 by_cases hb:a / 2 ^ k % 2=1
 ·have hv:bitI a k=true:=by simpa [bitI] using e.2 hb
  have hx:(bits .and .i64 (a:Int) B != 0)=true:=by
   rw [h,hb,Nat.one_mul,bne_iff_ne]; intro h0; have:2 ^ k=0:=by exact_mod_cast h0
   omega
  rw [hv]
  clear h e hb hv hB
  go_enter Try.func112,Try.ntmps112
  go_wp2
  go_ret
  exact ⟨rfl,rfl⟩
 ·have hv:bitI a k=false:=by
   unfold bitI
   rw [decide_eq_false_iff_not]
   exact fun h'=>hb (e.1 h')
  have hx:(bits .and .i64 (a:Int) B != 0)=false:=by
   rw [h,show a / 2 ^ k % 2=0 by omega]; simp
  rw [hv]
  clear h e hb hv hB
  go_enter Try.func112,Try.ntmps112
  go_wp2
  go_ret
  exact ⟨rfl,rfl⟩
theorem seesLate_any (c l:Int) (hl:l=1\/l=2\/l=3) (hc0:0<=c) (hc1:c<=65535) (w:World) :
  Calls Try.prog 106 #[.int .i64 c,.int .i64 l] w fun e w'=>e=.returned (.bool (bitI c l.toNat))/\w'=w:=by
 rcases hl with rfl | rfl | rfl
 ·have h:=has_any c 1 2 rfl (by omega) hc0 hc1
  go_enter Try.func106,Try.ntmps106
  go_wp2_with (go_at_call 112; refine (h _).mono ?_; rintro e w1 ⟨rfl,rfl⟩)
  go_ret
  exact ⟨rfl,rfl⟩
 ·have h:=has_any c 2 4 rfl (by omega) hc0 hc1
  go_enter Try.func106,Try.ntmps106
  go_wp2_with (go_at_call 112; refine (h _).mono ?_; rintro e w1 ⟨rfl,rfl⟩)
  go_ret
  exact ⟨rfl,rfl⟩
 ·have h:=has_any c 3 8 rfl (by omega) hc0 hc1
  go_enter Try.func106,Try.ntmps106
  go_wp2_with (go_at_call 112; refine (h _).mono ?_; rintro e w1 ⟨rfl,rfl⟩)
  go_ret
  exact ⟨rfl,rfl⟩
theorem keepsTable_any (c l:Int) (hl:l=2\/l=3) (hc0:0<=c) (hc1:c<=65535) (w:World) :
  Calls Try.prog 110 #[.int .i64 c,.int .i64 l] w fun e w'=>e=.returned (.bool (bitI c (l+2).toNat))/\w'=w:=by
 rcases hl with rfl | rfl
 ·have h:=has_any c 4 16 rfl (by omega) hc0 hc1
  go_enter Try.func110,Try.ntmps110
  go_wp2_with (go_at_call 112; refine (h _).mono ?_; rintro e w1 ⟨rfl,rfl⟩)
  go_ret
  exact ⟨rfl,rfl⟩
 ·have h:=has_any c 5 32 rfl (by omega) hc0 hc1
  go_enter Try.func110,Try.ntmps110
  go_wp2_with (go_at_call 112; refine (h _).mono ?_; rintro e w1 ⟨rfl,rfl⟩)
  go_ret
  exact ⟨rfl,rfl⟩
theorem validPage_any (p:Int) (w:World) :
  Calls Try.prog 44 #[.int .i64 p] w fun e w'=>e=.returned (.bool (pageOk p))/\w'=w:=by
 unfold pageOk
 by_cases h1:0<=p
 ·have h1':decide (0<=p)=true:=by simpa using h1
  by_cases h2:p < 4096
  ·have h2':decide (p < 4096)=true:=by simpa using h2
   rw [h1',h2']
   clear h1 h2
   go_enter Try.func44,Try.ntmps44
   go_wp2
   go_ret
   exact ⟨rfl,rfl⟩
  ·have h2':decide (p < 4096)=false:=by simpa using h2
   rw [h1',h2']
   clear h1 h2
   go_enter Try.func44,Try.ntmps44
   go_wp2
   go_ret
   exact ⟨rfl,rfl⟩
 ·have h1':decide (0<=p)=false:=by simpa using h1
  rw [h1']
  clear h1
  go_enter Try.func44,Try.ntmps44
  go_wp2
  go_ret
  exact ⟨by simp,rfl⟩
theorem validChoice_any (p:Int) (w:World) :
  Calls Try.prog 45 #[.int .i64 p] w fun e w'=>e=.returned (.bool (choiceOk p))/\w'=w:=by
 unfold choiceOk
 by_cases h1:0<=p
 ·have h1':decide (0<=p)=true:=by simpa using h1
  by_cases h2:p<=65535
  ·have h2':decide (p<=65535)=true:=by simpa using h2
   rw [h1',h2']
   clear h1 h2
   go_enter Try.func45,Try.ntmps45
   go_wp2
   go_ret
   exact ⟨rfl,rfl⟩
  ·have h2':decide (p<=65535)=false:=by simpa using h2
   rw [h1',h2']
   clear h1 h2
   go_enter Try.func45,Try.ntmps45
   go_wp2
   go_ret
   exact ⟨rfl,rfl⟩
 ·have h1':decide (0<=p)=false:=by simpa using h1
  rw [h1']
  clear h1
  go_enter Try.func45,Try.ntmps45
  go_wp2
  go_ret
  exact ⟨by simp,rfl⟩
end Go.Proofs.Ytnmhkgmmpkjjeaa
namespace Go.Proofs.Ytnmhkgmmpkjjeaa
open Go.ChangeShapes Go.WideShapes Go.ChangeAt Go.RowKit
set_option linter.unusedVariables false
attribute [local go_sem ↓] Go.wp_at_zero Go.wp_at_succ
theorem within_any (b o:Nat) (page pages:Int) (doom:Bool) (hp0:0<=page) (hp1:page < 100000) (hs:pages=1\/pages=16\/pages=256) (w:World) (hb:b < w.heap.size) (hc:w.cell? ⟨b,o+2,none⟩=some (.bool doom)) :
  Calls Try.prog 109 #[.pointer (some ⟨b,o,none⟩),.int .i64 page,.int .i64 pages] w fun e w'=>e=.returned (.agg #[.int .i64 (page - page % pages),.int .i64 pages,.bool doom])/\Below w.heap.size w w':=by
 have HK:Hid (∀ wX,Below w.heap.size w wX->wX.cell? ⟨b,o+2,none⟩=some (.bool doom)):=fun wX hX=>(hX.cell (by simpa using hb)).trans hc
 have hwp:IntKind.i64.wrap page=page:=by rw [IntKind.wrap_i64]; omega
 rcases hs with rfl | rfl | rfl
 ·have e1:page - page % 1=page:=by omega
  rw [e1]
  clear e1
  go_enter Try.func109,Try.ntmps109
  go_wp2_with fail
  go_region_held3 (fun w'=>w'.cell? ⟨b,o+2,none⟩=some (.bool doom)) ((refine HK.out _ ?_; repeat (first | exact Below.refl _ _ | with_reducible refine Below.drew ?_ | refine Below.alloc ?_ (by first | omega | (simp <;> omega)) _))) (fail)
  go_wp2
  exact bodyPost_ret (v:=.agg #[.int .i64 page,.int .i64 1,.bool doom]) (by simp [results,Try.results109,go_sem]) rfl ⟨rfl,((Below.refl _ _).alloc (Nat.le_refl _) _).drew⟩
 ·clear hwp
  go_enter Try.func109,Try.ntmps109
  go_wp2_with fail
  go_region_held3 (fun w'=>w'.cell? ⟨b,o+2,none⟩=some (.bool doom)) ((refine HK.out _ ?_; repeat (first | exact Below.refl _ _ | with_reducible refine Below.drew ?_ | refine Below.alloc ?_ (by first | omega | (simp <;> omega)) _))) (fail)
  go_wp2
  exact bodyPost_ret (v:=.agg #[.int .i64 (page - page % 16),.int .i64 16,.bool doom]) (by simp [results,Try.results109,go_sem,Int.tmod_eq_emod_of_nonneg hp0,show IntKind.i64.wrap (page - page % 16)=page - page % 16 by rw [IntKind.wrap_i64]; omega]) rfl ⟨rfl,((Below.refl _ _).alloc (Nat.le_refl _) _).drew⟩
 ·clear hwp
  go_enter Try.func109,Try.ntmps109
  go_wp2_with fail
  go_region_held3 (fun w'=>w'.cell? ⟨b,o+2,none⟩=some (.bool doom)) ((refine HK.out _ ?_; repeat (first | exact Below.refl _ _ | with_reducible refine Below.drew ?_ | refine Below.alloc ?_ (by first | omega | (simp <;> omega)) _))) (fail)
  go_wp2
  exact bodyPost_ret (v:=.agg #[.int .i64 (page - page % 256),.int .i64 256,.bool doom]) (by simp [results,Try.results109,go_sem,Int.tmod_eq_emod_of_nonneg hp0,show IntKind.i64.wrap (page - page % 256)=page - page % 256 by rw [IntKind.wrap_i64]; omega]) rfl ⟨rfl,((Below.refl _ _).alloc (Nat.le_refl _) _).drew⟩
theorem addr_any (b:Nat) (page level table:Int) (hp0:0<=page) (hp1:page < 4096) (hl:level=1\/level=2\/level=3) (ht0:0<=table) (ht1:table < 100000) (w:World) (hl3:w.cell? ⟨b,3,none⟩=some (.int .i64 level)) (ht4:w.cell? ⟨b,4,none⟩=some (.int .i64 table)) :
  Calls Try.prog 105 #[.pointer (some ⟨b,0,none⟩),.int .i64 page] w fun e w'=>e=.returned (.int .i64 (table * 16+idx page level))/\Below w.heap.size w w':=by
 rcases hl with rfl | rfl | rfl
 ·have hc:∀ w,Calls Try.prog 148 #[.int .i64 1] w fun e w'=>e=.returned (.int .i64 256)/\w'=w:=entryPages_any 1
  have e1:idx page 1=page / 256 % 16:=by simp [idx]; omega
  rw [e1]
  clear e1
  go_enter Try.func105,Try.ntmps105
  go_wp2_with fail
  go_quiet ((go_at_call 148; exact Calls.quiet_of_same (hc _)))
  go_wp2
  go_ret
  exact ⟨rfl,bDrewN (Below.refl _ _) _⟩
 ·have hc:∀ w,Calls Try.prog 148 #[.int .i64 2] w fun e w'=>e=.returned (.int .i64 16)/\w'=w:=entryPages_any 2
  have e1:idx page 2=page / 16 % 16:=by simp [idx]
  rw [e1]
  clear e1
  go_enter Try.func105,Try.ntmps105
  go_wp2_with fail
  go_quiet ((go_at_call 148; exact Calls.quiet_of_same (hc _)))
  go_wp2
  go_ret
  exact ⟨rfl,bDrewN (Below.refl _ _) _⟩
 ·have hc:∀ w,Calls Try.prog 148 #[.int .i64 3] w fun e w'=>e=.returned (.int .i64 1)/\w'=w:=entryPages_any 3
  have e1:idx page 3=page % 16:=by simp [idx]
  have hwp:IntKind.i64.wrap page=page:=by rw [IntKind.wrap_i64]; omega
  rw [e1]
  clear e1
  go_enter Try.func105,Try.ntmps105
  go_wp2_with fail
  go_quiet ((go_at_call 148; exact Calls.quiet_of_same (hc _)))
  go_wp2
  go_ret
  exact ⟨rfl,bDrewN (Below.refl _ _) _⟩
theorem hit_any (b o:Nat) (page ep pages out perm:Int) (hp0:0<=page) (hp1:page < 100000) (he0:0<=ep) (he1:ep < 100000) (ho0:0<=out) (ho1:out < 100000) (w:World) (hb:b < w.heap.size) (h0:w.cell? ⟨b,o,none⟩=some (.int .i64 ep)) (h1:w.cell? ⟨b,o+1,none⟩=some (.int .i64 pages)) (h3:w.cell? ⟨b,o+3,none⟩=some (.int .i64 out)) (h4:w.cell? ⟨b,o+4,none⟩=some (.int .i64 perm)) :
  Calls Try.prog 151 #[.pointer (some ⟨b,o,none⟩),.int .i64 page] w fun e w'=>e=.returned (.agg #[.int .i64 1,.int .i64 (out+page - ep),.int .i64 perm,.int .i64 pages])/\Below w.heap.size w w':=by
 have HK:Hid (∀ wX,Below w.heap.size w wX->wX.cell? ⟨b,o,none⟩=some (.int .i64 ep)/\wX.cell? ⟨b,o+1,none⟩=some (.int .i64 pages)/\wX.cell? ⟨b,o+3,none⟩=some (.int .i64 out)/\wX.cell? ⟨b,o+4,none⟩=some (.int .i64 perm)):=fun wX hX=>⟨(hX.cell (by simpa using hb)).trans h0,(hX.cell (by simpa using hb)).trans h1,(hX.cell (by simpa using hb)).trans h3,(hX.cell (by simpa using hb)).trans h4⟩
 go_enter Try.func151,Try.ntmps151
 go_wp2_with fail
 go_region_held3 (fun wX=>wX.cell? ⟨b,o,none⟩=some (.int .i64 ep)/\wX.cell? ⟨b,o+1,none⟩=some (.int .i64 pages)/\wX.cell? ⟨b,o+3,none⟩=some (.int .i64 out)/\wX.cell? ⟨b,o+4,none⟩=some (.int .i64 perm)) ((refine HK.out _ ?_; repeat (first | exact Below.refl _ _ | with_reducible refine Below.drew ?_ | refine Below.alloc ?_ (by first | omega | (simp <;> omega)) _))) (fail)
 go_wp2
 exact bodyPost_ret (v:=.agg #[.int .i64 1,.int .i64 (out+page - ep),.int .i64 perm,.int .i64 pages]) (by simp [results,Try.results151,go_sem,show IntKind.i64.wrap (out+page)=out+page by rw [IntKind.wrap_i64]; omega,show IntKind.i64.wrap (out+page - ep)=out+page - ep by rw [IntKind.wrap_i64]; omega]) rfl ⟨rfl,((Below.refl _ _).alloc (Nat.le_refl _) _).drew⟩
theorem readU_any (gu:Nat) (g1 g2:Nat) (n1 c1 n2 c2:Nat) (A:Nat) (late:Bool) (x:Int) (w:World)
  (h0:late=false->w.cell? ⟨gu,0,none⟩=some (.slice (some ⟨g1,0,none⟩) n1 c1)/\A < n1/\w.cell? ⟨g1,A,none⟩=some (.int .u64 x))
  (h1:late=true->w.cell? ⟨gu,1,none⟩=some (.slice (some ⟨g2,0,none⟩) n2 c2)/\A < n2/\w.cell? ⟨g2,A,none⟩=some (.int .u64 x)) :
  Calls Try.prog 104 #[.pointer (some ⟨gu,0,none⟩),.int .i64 A,.bool late] w fun e w'=>e=.returned (.int .u64 x)/\Below w.heap.size w w':=by
 have A1:(0:Int)<=(A:Int):=by omega
 cases late
 ·obtain ⟨a,b,c⟩:=h0 rfl
  have A2:(A:Int) < (n1:Int):=by omega
  clear h0 h1 b
  go_enter Try.func104,Try.ntmps104
  go_wp2
  go_ret
  exact ⟨rfl,Below.refl _ _⟩
 ·obtain ⟨a,b,c⟩:=h1 rfl
  have A2:(A:Int) < (n2:Int):=by omega
  clear h0 h1 b
  go_enter Try.func104,Try.ntmps104
  go_wp2
  go_ret
  exact ⟨rfl,Below.refl _ _⟩
def meets (a n b m:Int):Bool:=decide (a < b+m) && decide (b < a+n)
theorem overlaps_any (b o:Nat) (hp hn first pages:Int) (h0:0<=hp/\hp < 100000) (h1:0<=hn/\hn < 100000) (h2:0<=first/\first < 100000) (h3:0<=pages/\pages < 100000) (w:World) (c0:w.cell? ⟨b,o,none⟩=some (.int .i64 hp)) (c1:w.cell? ⟨b,o+1,none⟩=some (.int .i64 hn)) :
  Calls Try.prog 167 #[.pointer (some ⟨b,o,none⟩),.int .i64 first,.int .i64 pages] w fun e w'=>e=.returned (.bool (meets hp hn first pages))/\Below w.heap.size w w':=by
 unfold meets
 by_cases a:hp < first+pages
 ·have a':decide (hp < first+pages)=true:=by simpa using a
  by_cases d:first < hp+hn
  ·have d':decide (first < hp+hn)=true:=by simpa using d
   rw [a',d']
   clear a d
   go_enter Try.func167,Try.ntmps167
   go_wp2_with fail
   go_quiet (fail)
   go_wp2
   go_ret
   exact ⟨rfl,bDrewN (Below.refl _ _) _⟩
  ·have d':decide (first < hp+hn)=false:=by simpa using d
   rw [a',d']
   clear a d
   go_enter Try.func167,Try.ntmps167
   go_wp2_with fail
   go_quiet (fail)
   go_wp2
   go_ret
   exact ⟨rfl,bDrewN (Below.refl _ _) _⟩
 ·have a':decide (hp < first+pages)=false:=by simpa using a
  rw [a']
  clear a
  go_enter Try.func167,Try.ntmps167
  go_wp2_with fail
  go_quiet (fail)
  go_wp2
  go_ret
  exact ⟨by simp,bDrewN (Below.refl _ _) _⟩
theorem covers_hdr (b o:Nat) (hp hn page:Int) (h0:0<=hp/\hp < 100000) (h1:0<=hn/\hn < 100000) (h2:0<=page/\page < 100000) (w:World) (c0:w.cell? ⟨b,o,none⟩=some (.int .i64 hp)) (c1:w.cell? ⟨b,o+1,none⟩=some (.int .i64 hn)) :
  Calls Try.prog 149 #[.pointer (some ⟨b,o,none⟩),.int .i64 page] w fun e w'=>e=.returned (.bool (meets hp hn page 1))/\Below w.heap.size w w':=by
 have h:=overlaps_any b o hp hn page 1 h0 h1 h2 (by omega) w c0 c1
 go_enter Try.func149,Try.ntmps149
 go_wp2_with fail
 refine h.mono ?_
 rintro e w1 ⟨rfl,hb1⟩
 go_wp2_with fail
 go_ret
 exact ⟨rfl,hb1⟩
end Go.Proofs.Ytnmhkgmmpkjjeaa
