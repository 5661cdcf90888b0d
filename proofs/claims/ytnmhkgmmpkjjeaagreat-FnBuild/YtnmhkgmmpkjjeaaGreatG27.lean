import Derived.Test.YtnmhkgmmpkjjeaaGreatG01
import Derived.Test.YtnmhkgmmpkjjeaaGreatG00
import Derived.Deep.Slices
import Derived.ChangeOld
import Derived.Test.YtnmhkgmmpkjjeaaGreatG20
import Derived.Test.YtnmhkgmmpkjjeaaGreatG21
import Derived.Test.YtnmhkgmmpkjjeaaGreatG23
import Derived.Laws.BitsLemmas
namespace Go.Proofs.YtnmhkgmmpkjjeaaGreat
open Go.ChangeShapes Go.WideShapes Go.ChangeAt Go.RowKit
set_option linter.unusedVariables false
def okWrite (x:WriteE):Prop:=(Lit.int .i64 x.addr).wf=true/\(Lit.int .u64 x.word).wf=true
def okTlb (x:TlbE):Prop:=(Lit.int .i64 x.page).wf=true/\(Lit.int .i64 x.size).wf=true/\(Lit.int .i64 x.out).wf=true/\(Lit.int .i64 x.perm).wf=true
def okWc (x:WcE):Prop:=(Lit.int .i64 x.level).wf=true/\(Lit.int .i64 x.page).wf=true/\(Lit.int .i64 x.table).wf=true
structure SV where
 a1:Option Addr
 c1:Nat
 a2:Option Addr
 c2:Nat
 a3:Option Addr
 c3:Nat
 a4:Option Addr
 c4:Nat
def SV.mv (s:SV) (M:Mach):MV:=⟨.slice s.a1 M.mem.length s.c1,.slice s.a2 M.pend.length s.c2,.slice s.a3 M.tlb.length s.c3,.slice s.a4 M.wc.length s.c4⟩
abbrev MA (s:SV) (M:Mach):Value:=.agg #[.slice s.a1 M.mem.length s.c1,.slice s.a2 M.pend.length s.c2,.slice s.a3 M.tlb.length s.c3,.slice s.a4 M.wc.length s.c4]
abbrev MC (w:World) (B:Nat) (s:SV) (M:Mach):Prop:=w.cell? ⟨B,0,none⟩=some (.slice s.a1 M.mem.length s.c1)/\w.cell? ⟨B,1,none⟩=some (.slice s.a2 M.pend.length s.c2)/\w.cell? ⟨B,2,none⟩=some (.slice s.a3 M.tlb.length s.c3)/\w.cell? ⟨B,3,none⟩=some (.slice s.a4 M.wc.length s.c4)
structure MOk (M:Mach):Prop where
 w:M.mem.length<=9223372036854775807
 p:M.pend.length<=9223372036854775807
 t:M.tlb.length<=9223372036854775807
 c:M.wc.length<=9223372036854775807
 word:∀ i,0<=M.mem.getD i 0/\M.mem.getD i 0 < 2 ^ 64
 pend:∀ i,i < M.pend.length->okWrite (eAt eWrite M.pend i)
 tlb:∀ i,i < M.tlb.length->okTlb (eAt eTlb M.tlb i)
 wc:∀ i,i < M.wc.length->okWc (eAt eWc M.wc i)
def pageOk (p:Int):Bool:=decide (0<=p) && decide (p < 4096)
def choiceOk (c:Int):Bool:=decide (0<=c) && decide (c<=65535)
def bitI (c:Int) (b:Nat):Bool:=decide (c / 2 ^ b % 2=1)
def idx (page level:Int):Int:=if level=1 then page / 256 else if level=2 then page / 16 % 16 else page % 16
theorem idx_bd (p l:Int) (hp0:0<=p) (hp1:p < 4096):0<=idx p l/\idx p l < 16:=by
 unfold idx
 by_cases a:l=1 <;> by_cases b:l=2 <;> simp [a,b] <;> omega
def tlbOkB (e:TlbE):Bool:=(decide (e.size=1) || decide (e.size=16)) && pageOk e.page && decide (e.page % e.size=0) && decide (1<=e.perm) && decide (e.perm<=7) && decide (0<=e.out) && decide (e.out < 65536) && decide (e.out % e.size=0)
def wcOkB (n:Int) (e:WcE):Bool:=(decide (e.level=2) || decide (e.level=3)) && pageOk e.page && decide (e.page % cov (e.level - 1)=0) && decide (0<=e.table) && decide (e.table < n)
def sameB (a b:TlbE):Bool:=decide (a.page=b.page) && decide (a.size=b.size) && decide (a.out=b.out) && decide (a.perm=b.perm)
def tlbCov (e:TlbE) (p:Int):Bool:=decide (p - p % e.size=e.page)
def wcCov (e:WcE) (p:Int):Bool:=decide (p - p % cov (e.level - 1)=e.page)
def tlbV (e:TlbE):Value:=.agg #[.int .i64 e.page,.int .i64 e.size,.int .i64 e.out,.int .i64 e.perm,.bool e.doom]
def wcV (e:WcE):Value:=.agg #[.int .i64 e.level,.int .i64 e.page,.int .i64 e.table,.bool e.doom]
end Go.Proofs.YtnmhkgmmpkjjeaaGreat
namespace Go.Proofs.YtnmhkgmmpkjjeaaGreat
open Go.ChangeShapes Go.WideShapes Go.ChangeAt Go.RowKit
set_option linter.unusedVariables false
attribute [local go_sem ↓] Go.wp_at_zero Go.wp_at_succ
def pendOkB (n:Nat) (e:WriteE):Bool:=decide (0<=e.addr) && decide (e.addr < n)
def validL (M:Mach):Bool:=!decide (nfr M.mem.length=0) && decide (M.pend.length<=10000) && decide (M.tlb.length<=256) && decide (M.wc.length<=256)
def pendAll (M:Mach) (k:Nat):Bool:=(List.range k).all fun i=>pendOkB M.mem.length (eAt eWrite M.pend i)
def tlbAll (M:Mach) (k:Nat):Bool:=(List.range k).all fun i=>tlbOkB (eAt eTlb M.tlb i)
def wcAll (M:Mach) (k:Nat):Bool:=(List.range k).all fun i=>wcOkB (nfr M.mem.length) (eAt eWc M.wc i)
def validB (M:Mach):Bool:=validL M && pendAll M M.pend.length && tlbAll M M.tlb.length && wcAll M M.wc.length
end Go.Proofs.YtnmhkgmmpkjjeaaGreat
namespace Go.Proofs.YtnmhkgmmpkjjeaaGreat
open Go.ChangeShapes Go.WideShapes Go.ChangeAt Go.RowKit
set_option linter.unusedVariables false
def readTo (M:Mach) (a:Int):Nat->Int
 | 0=>M.mem.getD a.toNat 0
 | k+1=>if (eAt eWrite M.pend k).addr=a then (eAt eWrite M.pend k).word else readTo M a k
def readM (M:Mach) (a:Int) (late:Bool):Int:=if late then readTo M a M.pend.length else M.mem.getD a.toNat 0
end Go.Proofs.YtnmhkgmmpkjjeaaGreat
namespace Go.Proofs.YtnmhkgmmpkjjeaaGreat
open Go.ChangeShapes Go.WideShapes Go.ChangeAt Go.RowKit
set_option linter.unusedVariables false
attribute [local go_sem ↓] Go.wp_at_zero Go.wp_at_succ
theorem and_i64 (a k:Nat) (ha:a < 65536) (hk:k < 16):bits .and .i64 (a:Int) ((2 ^ k:Nat):Int)=((a / 2 ^ k % 2 * 2 ^ k:Nat):Int):=by
 have hb:2 ^ k < 2 ^ 16:=Nat.pow_lt_pow_right (by omega) hk
 have h1:(BitVec.ofInt 64 (a:Int)).toNat=a:=by
  rw [BitVec.ofInt_natCast,BitVec.toNat_ofNat]; exact Nat.mod_eq_of_lt (by omega)
 have h2:(BitVec.ofInt 64 ((2 ^ k:Nat):Int)).toNat=2 ^ k:=by
  rw [BitVec.ofInt_natCast,BitVec.toNat_ofNat]; exact Nat.mod_eq_of_lt (by omega)
 show IntKind.i64.wrap ((BitVec.ofInt 64 (a:Int) &&& BitVec.ofInt 64 ((2 ^ k:Nat):Int)).toNat:Int)=_
 have h3:=nat_and_mask a k 1
 rw [show (2 ^ 1 - 1) * 2 ^ k=2 ^ k by omega,show (2:Nat) ^ 1=2 from rfl] at h3
 rw [BitVec.toNat_and,h1,h2,h3,IntKind.wrap_i64]
 rcases Nat.mod_two_eq_zero_or_one (a / 2 ^ k) with h | h <;> rw [h] <;> omega
theorem has_any (c:Int) (k:Nat) (B:Int) (hB:B=((2 ^ k:Nat):Int)) (hk:k < 16) (hc0:0<=c) (hc1:c<=65535) (w:World) :
  Calls Tryz.prog 198 #[.int .i64 c,.int .i64 B] w fun e w'=>e=.returned (.bool (bitI c k))/\w'=w:=by
 obtain ⟨a,rfl⟩:=Int.eq_ofNat_of_zero_le hc0
 have h:=and_i64 a k (by omega) hk
 rw [<- hB] at h
 have hpos:0 < 2 ^ k:=Nat.pow_pos (by omega)
 have e:((a:Int) / 2 ^ k % 2=1) ↔ a / 2 ^ k % 2=1:=by
  rw [show (2:Int) ^ k=((2 ^ k:Nat):Int) by simp]
  omega
 by_cases hb:a / 2 ^ k % 2=1
 ·have hv:bitI a k=true:=by simpa [bitI] using e.2 hb
  have hx:(bits .and .i64 (a:Int) B != 0)=true:=by
   rw [h,hb,Nat.one_mul,bne_iff_ne]; intro h0; have:2 ^ k=0:=by exact_mod_cast h0
   omega
  rw [hv]
  clear h e hb hv hB
  go_enter Tryz.func198,Tryz.ntmps198
  go_wp2
  go_ret
  exact ⟨rfl,rfl⟩
 ·have hv:bitI a k=false:=by
   unfold bitI
   rw [decide_eq_false_iff_not]
   exact fun h'=>hb (e.1 h')
  have hx:(bits .and .i64 (a:Int) B != 0)=false:=by
   rw [h,show a / 2 ^ k % 2=0 by omega]; simp
  rw [hv]
  clear h e hb hv hB
  go_enter Tryz.func198,Tryz.ntmps198
  go_wp2
  go_ret
  exact ⟨rfl,rfl⟩
theorem seesLate_any (c l:Int) (hl:l=1\/l=2\/l=3) (hc0:0<=c) (hc1:c<=65535) (w:World) :
  Calls Tryz.prog 154 #[.int .i64 c,.int .i64 l] w fun e w'=>e=.returned (.bool (bitI c l.toNat))/\w'=w:=by
 rcases hl with rfl | rfl | rfl
 ·have h:=has_any c 1 2 rfl (by omega) hc0 hc1
  go_enter Tryz.func154,Tryz.ntmps154
  go_wp2_with (go_at_call 198; refine (h _).mono ?_; rintro e w1 ⟨rfl,rfl⟩)
  go_ret
  exact ⟨rfl,rfl⟩
 ·have h:=has_any c 2 4 rfl (by omega) hc0 hc1
  go_enter Tryz.func154,Tryz.ntmps154
  go_wp2_with (go_at_call 198; refine (h _).mono ?_; rintro e w1 ⟨rfl,rfl⟩)
  go_ret
  exact ⟨rfl,rfl⟩
 ·have h:=has_any c 3 8 rfl (by omega) hc0 hc1
  go_enter Tryz.func154,Tryz.ntmps154
  go_wp2_with (go_at_call 198; refine (h _).mono ?_; rintro e w1 ⟨rfl,rfl⟩)
  go_ret
  exact ⟨rfl,rfl⟩
theorem keepsTable_any (c l:Int) (hl:l=2\/l=3) (hc0:0<=c) (hc1:c<=65535) (w:World) :
  Calls Tryz.prog 158 #[.int .i64 c,.int .i64 l] w fun e w'=>e=.returned (.bool (bitI c (l+2).toNat))/\w'=w:=by
 rcases hl with rfl | rfl
 ·have h:=has_any c 4 16 rfl (by omega) hc0 hc1
  go_enter Tryz.func158,Tryz.ntmps158
  go_wp2_with (go_at_call 198; refine (h _).mono ?_; rintro e w1 ⟨rfl,rfl⟩)
  go_ret
  exact ⟨rfl,rfl⟩
 ·have h:=has_any c 5 32 rfl (by omega) hc0 hc1
  go_enter Tryz.func158,Tryz.ntmps158
  go_wp2_with (go_at_call 198; refine (h _).mono ?_; rintro e w1 ⟨rfl,rfl⟩)
  go_ret
  exact ⟨rfl,rfl⟩
theorem validPage_any (p:Int) (w:World) :
  Calls Tryz.prog 90 #[.int .i64 p] w fun e w'=>e=.returned (.bool (pageOk p))/\w'=w:=by
 unfold pageOk
 by_cases h1:0<=p
 ·have h1':decide (0<=p)=true:=by simpa using h1
  by_cases h2:p < 4096
  ·have h2':decide (p < 4096)=true:=by simpa using h2
   rw [h1',h2']
   clear h1 h2
   go_enter Tryz.func90,Tryz.ntmps90
   go_wp2
   go_ret
   exact ⟨rfl,rfl⟩
  ·have h2':decide (p < 4096)=false:=by simpa using h2
   rw [h1',h2']
   clear h1 h2
   go_enter Tryz.func90,Tryz.ntmps90
   go_wp2
   go_ret
   exact ⟨rfl,rfl⟩
 ·have h1':decide (0<=p)=false:=by simpa using h1
  rw [h1']
  clear h1
  go_enter Tryz.func90,Tryz.ntmps90
  go_wp2
  go_ret
  exact ⟨by simp,rfl⟩
theorem within_any (b o:Nat) (page pages:Int) (doom:Bool) (hp0:0<=page) (hp1:page < 100000) (hs:pages=1\/pages=16\/pages=256) (w:World) (hb:b < w.heap.size) (hc:w.cell? ⟨b,o+2,none⟩=some (.bool doom)) :
  Calls Tryz.prog 157 #[.pointer (some ⟨b,o,none⟩),.int .i64 page,.int .i64 pages] w fun e w'=>e=.returned (.agg #[.int .i64 (page - page % pages),.int .i64 pages,.bool doom])/\Below w.heap.size w w':=by
 have HK:Hid (∀ wX,Below w.heap.size w wX->wX.cell? ⟨b,o+2,none⟩=some (.bool doom)):=fun wX hX=>(hX.cell (by simpa using hb)).trans hc
 have hwp:IntKind.i64.wrap page=page:=by rw [IntKind.wrap_i64]; omega
 rcases hs with rfl | rfl | rfl
 ·have e1:page - page % 1=page:=by omega
  rw [e1]
  clear e1
  go_enter Tryz.func157,Tryz.ntmps157
  go_wp2_with fail
  go_region_held3 (fun w'=>w'.cell? ⟨b,o+2,none⟩=some (.bool doom)) ((refine HK.out _ ?_; repeat (first | exact Below.refl _ _ | with_reducible refine Below.drew ?_ | refine Below.alloc ?_ (by first | omega | (simp <;> omega)) _))) (fail)
  go_wp2
  exact bodyPost_ret (v:=.agg #[.int .i64 page,.int .i64 1,.bool doom]) (by simp [results,Tryz.results157,go_sem]) rfl ⟨rfl,((Below.refl _ _).alloc (Nat.le_refl _) _).drew⟩
 ·clear hwp
  go_enter Tryz.func157,Tryz.ntmps157
  go_wp2_with fail
  go_region_held3 (fun w'=>w'.cell? ⟨b,o+2,none⟩=some (.bool doom)) ((refine HK.out _ ?_; repeat (first | exact Below.refl _ _ | with_reducible refine Below.drew ?_ | refine Below.alloc ?_ (by first | omega | (simp <;> omega)) _))) (fail)
  go_wp2
  exact bodyPost_ret (v:=.agg #[.int .i64 (page - page % 16),.int .i64 16,.bool doom]) (by simp [results,Tryz.results157,go_sem,Int.tmod_eq_emod_of_nonneg hp0,show IntKind.i64.wrap (page - page % 16)=page - page % 16 by rw [IntKind.wrap_i64]; omega]) rfl ⟨rfl,((Below.refl _ _).alloc (Nat.le_refl _) _).drew⟩
 ·clear hwp
  go_enter Tryz.func157,Tryz.ntmps157
  go_wp2_with fail
  go_region_held3 (fun w'=>w'.cell? ⟨b,o+2,none⟩=some (.bool doom)) ((refine HK.out _ ?_; repeat (first | exact Below.refl _ _ | with_reducible refine Below.drew ?_ | refine Below.alloc ?_ (by first | omega | (simp <;> omega)) _))) (fail)
  go_wp2
  exact bodyPost_ret (v:=.agg #[.int .i64 (page - page % 256),.int .i64 256,.bool doom]) (by simp [results,Tryz.results157,go_sem,Int.tmod_eq_emod_of_nonneg hp0,show IntKind.i64.wrap (page - page % 256)=page - page % 256 by rw [IntKind.wrap_i64]; omega]) rfl ⟨rfl,((Below.refl _ _).alloc (Nat.le_refl _) _).drew⟩
theorem addr_any (b:Nat) (page level table:Int) (hp0:0<=page) (hp1:page < 4096) (hl:level=1\/level=2\/level=3) (ht0:0<=table) (ht1:table < 100000) (w:World) (hl3:w.cell? ⟨b,3,none⟩=some (.int .i64 level)) (ht4:w.cell? ⟨b,4,none⟩=some (.int .i64 table)) :
  Calls Tryz.prog 153 #[.pointer (some ⟨b,0,none⟩),.int .i64 page] w fun e w'=>e=.returned (.int .i64 (table * 16+idx page level))/\Below w.heap.size w w':=by
 rcases hl with rfl | rfl | rfl
 ·have hc:∀ w,Calls Tryz.prog 168 #[.int .i64 1] w fun e w'=>e=.returned (.int .i64 256)/\w'=w:=entryPages_any 1
  have e1:idx page 1=page / 256 % 16:=by simp [idx]; omega
  rw [e1]
  clear e1
  go_enter Tryz.func153,Tryz.ntmps153
  go_wp2_with fail
  go_quiet ((go_at_call 168; exact Calls.quiet_of_same (hc _)))
  go_wp2
  go_ret
  exact ⟨rfl,bDrewN (Below.refl _ _) _⟩
 ·have hc:∀ w,Calls Tryz.prog 168 #[.int .i64 2] w fun e w'=>e=.returned (.int .i64 16)/\w'=w:=entryPages_any 2
  have e1:idx page 2=page / 16 % 16:=by simp [idx]
  rw [e1]
  clear e1
  go_enter Tryz.func153,Tryz.ntmps153
  go_wp2_with fail
  go_quiet ((go_at_call 168; exact Calls.quiet_of_same (hc _)))
  go_wp2
  go_ret
  exact ⟨rfl,bDrewN (Below.refl _ _) _⟩
 ·have hc:∀ w,Calls Tryz.prog 168 #[.int .i64 3] w fun e w'=>e=.returned (.int .i64 1)/\w'=w:=entryPages_any 3
  have e1:idx page 3=page % 16:=by simp [idx]
  have hwp:IntKind.i64.wrap page=page:=by rw [IntKind.wrap_i64]; omega
  rw [e1]
  clear e1
  go_enter Tryz.func153,Tryz.ntmps153
  go_wp2_with fail
  go_quiet ((go_at_call 168; exact Calls.quiet_of_same (hc _)))
  go_wp2
  go_ret
  exact ⟨rfl,bDrewN (Below.refl _ _) _⟩
theorem hit_any (b o:Nat) (page ep pages out perm:Int) (hp0:0<=page) (hp1:page < 100000) (he0:0<=ep) (he1:ep < 100000) (ho0:0<=out) (ho1:out < 100000) (w:World) (hb:b < w.heap.size) (h0:w.cell? ⟨b,o,none⟩=some (.int .i64 ep)) (h1:w.cell? ⟨b,o+1,none⟩=some (.int .i64 pages)) (h3:w.cell? ⟨b,o+3,none⟩=some (.int .i64 out)) (h4:w.cell? ⟨b,o+4,none⟩=some (.int .i64 perm)) :
  Calls Tryz.prog 205 #[.pointer (some ⟨b,o,none⟩),.int .i64 page] w fun e w'=>e=.returned (.agg #[.int .i64 1,.int .i64 (out+page - ep),.int .i64 perm,.int .i64 pages])/\Below w.heap.size w w':=by
 have HK:Hid (∀ wX,Below w.heap.size w wX->wX.cell? ⟨b,o,none⟩=some (.int .i64 ep)/\wX.cell? ⟨b,o+1,none⟩=some (.int .i64 pages)/\wX.cell? ⟨b,o+3,none⟩=some (.int .i64 out)/\wX.cell? ⟨b,o+4,none⟩=some (.int .i64 perm)):=fun wX hX=>⟨(hX.cell (by simpa using hb)).trans h0,(hX.cell (by simpa using hb)).trans h1,(hX.cell (by simpa using hb)).trans h3,(hX.cell (by simpa using hb)).trans h4⟩
 go_enter Tryz.func205,Tryz.ntmps205
 go_wp2_with fail
 go_region_held3 (fun wX=>wX.cell? ⟨b,o,none⟩=some (.int .i64 ep)/\wX.cell? ⟨b,o+1,none⟩=some (.int .i64 pages)/\wX.cell? ⟨b,o+3,none⟩=some (.int .i64 out)/\wX.cell? ⟨b,o+4,none⟩=some (.int .i64 perm)) ((refine HK.out _ ?_; repeat (first | exact Below.refl _ _ | with_reducible refine Below.drew ?_ | refine Below.alloc ?_ (by first | omega | (simp <;> omega)) _))) (fail)
 go_wp2
 exact bodyPost_ret (v:=.agg #[.int .i64 1,.int .i64 (out+page - ep),.int .i64 perm,.int .i64 pages]) (by simp [results,Tryz.results205,go_sem,show IntKind.i64.wrap (out+page)=out+page by rw [IntKind.wrap_i64]; omega,show IntKind.i64.wrap (out+page - ep)=out+page - ep by rw [IntKind.wrap_i64]; omega]) rfl ⟨rfl,((Below.refl _ _).alloc (Nat.le_refl _) _).drew⟩
theorem readU_any (gu:Nat) (g1 g2:Nat) (n1 c1 n2 c2:Nat) (A:Nat) (late:Bool) (x:Int) (w:World)
  (h0:late=false->w.cell? ⟨gu,0,none⟩=some (.slice (some ⟨g1,0,none⟩) n1 c1)/\A < n1/\w.cell? ⟨g1,A,none⟩=some (.int .u64 x))
  (h1:late=true->w.cell? ⟨gu,1,none⟩=some (.slice (some ⟨g2,0,none⟩) n2 c2)/\A < n2/\w.cell? ⟨g2,A,none⟩=some (.int .u64 x)) :
  Calls Tryz.prog 152 #[.pointer (some ⟨gu,0,none⟩),.int .i64 A,.bool late] w fun e w'=>e=.returned (.int .u64 x)/\Below w.heap.size w w':=by
 have A1:(0:Int)<=(A:Int):=by omega
 cases late
 ·obtain ⟨a,b,c⟩:=h0 rfl
  have A2:(A:Int) < (n1:Int):=by omega
  clear h0 h1 b
  go_enter Tryz.func152,Tryz.ntmps152
  go_wp2
  go_ret
  exact ⟨rfl,Below.refl _ _⟩
 ·obtain ⟨a,b,c⟩:=h1 rfl
  have A2:(A:Int) < (n2:Int):=by omega
  clear h0 h1 b
  go_enter Tryz.func152,Tryz.ntmps152
  go_wp2
  go_ret
  exact ⟨rfl,Below.refl _ _⟩
def meets (a n b m:Int):Bool:=decide (a < b+m) && decide (b < a+n)
theorem overlaps_any (b o:Nat) (hp hn first pages:Int) (h0:0<=hp/\hp < 100000) (h1:0<=hn/\hn < 100000) (h2:0<=first/\first < 100000) (h3:0<=pages/\pages < 100000) (w:World) (c0:w.cell? ⟨b,o,none⟩=some (.int .i64 hp)) (c1:w.cell? ⟨b,o+1,none⟩=some (.int .i64 hn)) :
  Calls Tryz.prog 134 #[.pointer (some ⟨b,o,none⟩),.int .i64 first,.int .i64 pages] w fun e w'=>e=.returned (.bool (meets hp hn first pages))/\Below w.heap.size w w':=by
 unfold meets
 by_cases a:hp < first+pages
 ·have a':decide (hp < first+pages)=true:=by simpa using a
  by_cases d:first < hp+hn
  ·have d':decide (first < hp+hn)=true:=by simpa using d
   rw [a',d']
   clear a d
   go_enter Tryz.func134,Tryz.ntmps134
   go_wp2_with fail
   go_quiet (fail)
   go_wp2
   go_ret
   exact ⟨rfl,bDrewN (Below.refl _ _) _⟩
  ·have d':decide (first < hp+hn)=false:=by simpa using d
   rw [a',d']
   clear a d
   go_enter Tryz.func134,Tryz.ntmps134
   go_wp2_with fail
   go_quiet (fail)
   go_wp2
   go_ret
   exact ⟨rfl,bDrewN (Below.refl _ _) _⟩
 ·have a':decide (hp < first+pages)=false:=by simpa using a
  rw [a']
  clear a
  go_enter Tryz.func134,Tryz.ntmps134
  go_wp2_with fail
  go_quiet (fail)
  go_wp2
  go_ret
  exact ⟨by simp,bDrewN (Below.refl _ _) _⟩
theorem covers_hdr (b o:Nat) (hp hn page:Int) (h0:0<=hp/\hp < 100000) (h1:0<=hn/\hn < 100000) (h2:0<=page/\page < 100000) (w:World) (c0:w.cell? ⟨b,o,none⟩=some (.int .i64 hp)) (c1:w.cell? ⟨b,o+1,none⟩=some (.int .i64 hn)) :
  Calls Tryz.prog 199 #[.pointer (some ⟨b,o,none⟩),.int .i64 page] w fun e w'=>e=.returned (.bool (meets hp hn page 1))/\Below w.heap.size w w':=by
 have h:=overlaps_any b o hp hn page 1 h0 h1 h2 (by omega) w c0 c1
 go_enter Tryz.func199,Tryz.ntmps199
 go_wp2_with fail
 refine h.mono ?_
 rintro e w1 ⟨rfl,hb1⟩
 go_wp2_with fail
 go_ret
 exact ⟨rfl,hb1⟩
end Go.Proofs.YtnmhkgmmpkjjeaaGreat
