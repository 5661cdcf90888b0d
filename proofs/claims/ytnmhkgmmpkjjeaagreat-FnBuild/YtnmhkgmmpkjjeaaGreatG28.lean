import Derived.Test.YtnmhkgmmpkjjeaaGreatG27
import Derived.Test.YtnmhkgmmpkjjeaaGreatG24
import Derived.Test.YtnmhkgmmpkjjeaaGreatG23
namespace Go.Proofs.YtnmhkgmmpkjjeaaGreat
open Go.ChangeShapes Go.WideShapes Go.ChangeAt Go.RowKit
set_option linter.unusedVariables false
structure HitR where
 kind:Int
 out:Int
 perm:Int
 size:Int
def hitV (h:HitR):Value:=.agg #[.int .i64 h.kind,.int .i64 h.out,.int .i64 h.perm,.int .i64 h.size]
def anyR (f:Nat->Bool) (n:Nat):Bool:=(List.range n).any f
theorem anyR_succ (f:Nat->Bool) (n:Nat):anyR f (n+1)=(anyR f n || f n):=by simp [anyR,List.range_succ,List.any_append]
theorem anyR_true (f:Nat->Bool) (i n:Nat) (hi:i < n) (h:f i=true):anyR f n=true:=by
 unfold anyR
 rw [List.any_eq_true]
 exact ⟨i,by simpa using hi,h⟩
def firstR (f:Nat->Bool):Nat->Nat->Nat
 | 0,i=>i
 | n+1,i=>if f i then i else firstR f n (i+1)
def wcEq (a b:WcE):Bool:=decide (a.level=b.level) && decide (a.page=b.page) && decide (a.table=b.table) && (a.doom == b.doom)
def tlbEq (a b:TlbE):Bool:=sameB a b && (a.doom == b.doom)
def hasWc (M:Mach) (e:WcE):Bool:=anyR (fun i=>wcEq (eAt eWc M.wc i) e) M.wc.length
def hasTlb (M:Mach) (e:TlbE):Bool:=anyR (fun i=>tlbEq (eAt eTlb M.tlb i) e) M.tlb.length
def addWcM (M:Mach) (e:WcE):Mach:=if hasWc M e || decide (256<=M.wc.length) then M else ⟨M.mem,M.pend,M.tlb,M.wc ++ [e]⟩
def addTlbM (M:Mach) (e:TlbE):Mach:=if hasTlb M e || decide (256<=M.tlb.length) then M else ⟨M.mem,M.pend,M.tlb ++ [e],M.wc⟩
def wordM (M:Mach) (page choice level frame:Int):Int:=readM M (frame * 16+idx page level) (bitI choice level.toNat)
def sizR (level x:Int):Int:=if dKind level x=2 then 16 else 1
def endM (page choice:Int) (M:Mach) (level x:Int) (doom:Bool):Mach × HitR :=
 if dKind level x=0 then (M,⟨0,0,0,0⟩)
 else if dKind level x=2\/dKind level x=3 then
  (if bitI choice 6 then addTlbM M ⟨page - page % sizR level x,sizR level x,dOut level x,dPerm level x,doom⟩ else M,⟨1,dOut level x+page % sizR level x,dPerm level x,sizR level x⟩)
 else (M,⟨3,0,0,0⟩)
def leadsM (M:Mach) (level x:Int):Bool:=decide (dKind level x=1) && decide (dOut level x < nfr M.mem.length)
def stepM (page choice:Int) (M:Mach) (level x:Int) (doom:Bool):Mach :=
 if bitI choice (level+3).toNat then addWcM M ⟨level+1,page - page % cov level,dOut level x,doom⟩ else M
def goM (page choice:Int):Nat->Mach->Int->Int->Bool->Mach × HitR
 | 0,M,level,frame,doom=>endM page choice M level (wordM M page choice level frame) doom
 | d+1,M,level,frame,doom =>
  if leadsM M level (wordM M page choice level frame) then
   goM page choice d (stepM page choice M level (wordM M page choice level frame) doom) (level+1) (dOut level (wordM M page choice level frame)) doom
  else endM page choice M level (wordM M page choice level frame) doom
def serves (M:Mach) (page level:Int) (i:Nat):Bool:=decide ((eAt eWc M.wc i).level=level) && wcCov (eAt eWc M.wc i) page
def findW (M:Mach) (page level:Int):Nat:=firstR (serves M page level) M.wc.length 0
def startM (M:Mach) (page choice:Int):WcE :=
 if bitI choice 0 then
  if findW M page 3 < M.wc.length then eAt eWc M.wc (findW M page 3)
  else if findW M page 2 < M.wc.length then eAt eWc M.wc (findW M page 2)
  else ⟨1,0,0,false⟩
 else ⟨1,0,0,false⟩
def walkM (M:Mach) (page choice:Int):Mach × HitR :=
 goM page choice (3 - (startM M page choice).level).toNat M (startM M page choice).level (startM M page choice).table (startM M page choice).doom
theorem firstR_skip (f:Nat->Bool):∀ n i t,t<=n->(∀ j,j < t->f (i+j)=false)->firstR f n i=firstR f (n - t) (i+t)
 | n,i,0,_,_=>by simp
 | 0,i,t+1,h,_=>by omega
 | n+1,i,t+1,h,hf=>by
  have h0:=hf 0 (by omega)
  rw [Nat.add_zero] at h0
  conv=>lhs; unfold firstR
  rw [h0]
  simp only [Bool.false_eq_true,if_false]
  rw [firstR_skip f n (i+1) t (by omega) (fun j hj=>by have:=hf (j+1) (by omega); rw [show i+1+j=i+(j+1) by omega]; exact this)]
  rw [show n+1 - (t+1)=n - t by omega,show i+1+t=i+(t+1) by omega]
theorem firstR_at (f:Nat->Bool) (n t:Nat) (ht:t < n) (hf:∀ j,j < t->f j=false) (h:f t=true):firstR f n 0=t:=by
 rw [firstR_skip f n 0 t (by omega) (fun j hj=>by rw [Nat.zero_add]; exact hf j hj),Nat.zero_add]
 obtain ⟨m,hm⟩:∃ m,n - t=m+1:=⟨n - t - 1,by omega⟩
 rw [hm]
 unfold firstR
 rw [if_pos h]
theorem firstR_none (f:Nat->Bool) (n:Nat) (hf:∀ j,j < n->f j=false):firstR f n 0=n:=by
 rw [firstR_skip f n 0 n (Nat.le_refl _) (fun j hj=>by rw [Nat.zero_add]; exact hf j hj)]
 simp [firstR]
structure WOk (M:Mach):Prop where
 n0:nfr M.mem.length ≠ 0
 word:∀ i,0<=M.mem.getD i 0/\M.mem.getD i 0 < 2 ^ 64
 pw:∀ i,0<=(eAt eWrite M.pend i).word/\(eAt eWrite M.pend i).word < 2 ^ 64
 p:M.pend.length<=10000
 t:M.tlb.length<=256
 c:M.wc.length<=256
theorem readTo_rng {M:Mach} (h:WOk M) (a:Int):∀ k,0<=readTo M a k/\readTo M a k < 2 ^ 64
 | 0=>h.word _
 | k+1=>by
  unfold readTo
  split
  ·exact h.pw k
  ·exact readTo_rng h a k
theorem wordM_rng {M:Mach} (h:WOk M) (page choice level frame:Int):0<=wordM M page choice level frame/\wordM M page choice level frame < 2 ^ 64:=by
 unfold wordM readM
 split
 ·exact readTo_rng h _ _
 ·exact h.word _
theorem addWcM_ok {M:Mach} (h:WOk M) (e:WcE):WOk (addWcM M e):=by
 unfold addWcM
 split
 ·exact h
 ·rename_i hn
  have hl:¬ 256<=M.wc.length:=by
   intro hc; apply hn; simp [hc]
  exact ⟨h.n0,h.word,h.pw,h.p,h.t,by simp; omega⟩
theorem stepM_ok {M:Mach} (h:WOk M) (page choice level x:Int) (doom:Bool):WOk (stepM page choice M level x doom):=by
 unfold stepM
 split
 ·exact addWcM_ok h _
 ·exact h
theorem dKind_3 (x:Int):dKind 3 x ≠ 1:=by
 unfold dKind
 rw [if_neg (by omega)]
 by_cases h1:x % 2=0
 ·rw [if_pos h1]; omega
 ·rw [if_neg h1]
  by_cases h2:x / 32 % 128 ≠ 0\/x / 268435456 ≠ 0
  ·rw [if_pos h2]; omega
  ·rw [if_neg h2,if_neg (by omega),if_neg (by omega)]
   by_cases h3:(3:Int)=3/\x / 2 % 2=1/\0 < x / 4 % 8
   ·rw [if_pos h3]; omega
   ·rw [if_neg h3]; omega
theorem implAdd_any (g:Nat) (zs:List Int) (c:Nat) (hz:OkMem zs) (hcc:zs.length<=c) (B:Nat) (hgB:g < B):∀ (d:Nat),d<=2->∀ (p:P3) (v:Value) (qs:List P3) (w:World),OkP zs d p->CRow w g zs->B<=w.heap.size->qs.length<=100000 - 10000 * d->PRow w B v qs ->
  Calls Tryz.prog 148 #[v,.agg #[.slice (some ⟨g,0,none⟩) zs.length c],.agg #[.int .i64 p.fr,.int .i64 p.lv,.int .i64 p.pg]] w fun e w'=>Grew w B v (qs ++ belowL zs (nfr zs.length) d p) e w'
 | 0,_,p,v,qs,w,hp,hg,hB,hq,hv=>by
  have hm:=nfr_mul zs.length hz.n0
  have hle:=nfr_le zs.length
  obtain ⟨a,b,c1,e,f,g1⟩:=hp
  have hl:p.lv=3:=by omega
  exact add_last g zs c p hl B hgB 100000 (by omega) v qs (by omega) w hg hB hv
 | d+1,hd,p,v,qs,w,hp,hg,hB,hq,hv=>by
  have hm:=nfr_mul zs.length hz.n0
  have hle:=nfr_le zs.length
  have hp':=hp
  obtain ⟨a,b,c1,e,f,g1⟩:=hp'
  refine add_step g zs c p p.fr.toNat (by omega) (by omega) (by omega) hcc b (by omega) f g1 (belowL zs (nfr zs.length) d) ?_ (nfr zs.length) hm.1
   (fun i hi w=>implDecode_any p.lv (wordAt zs p.fr i) (hz.rng _).1 (hz.rng _).2 w) B hgB (100000 - 10000 * (d+1)) (by omega) ?_ v qs hq w hg hB hv
  ·intro q
   have:=belowL_length zs (nfr zs.length) d q
   have:bnd d<=17:=by
    rcases (show d=0\/d=1 by omega) with rfl | rfl <;> decide
   omega
  ·intro i w v qs hi hl hg hB hq hv
   exact implAdd_any g zs c hz hcc B hgB d (by omega) (under zs p i) v qs w (okP_under hp i hi hl) hg hB (by omega) hv
end Go.Proofs.YtnmhkgmmpkjjeaaGreat
namespace Go.Proofs.YtnmhkgmmpkjjeaaGreat
open Go.ChangeShapes Go.WideShapes Go.ChangeAt Go.RowKit
set_option linter.unusedVariables false
attribute [local go_sem ↓] Go.wp_at_zero Go.wp_at_succ
def bare (zs:List Int):Mach:=⟨zs,[],[],[]⟩
theorem wordM_bare (zs:List Int) (page level frame:Int):wordM (bare zs) page 0 level frame=zs.getD (frame * 16+idx page level).toNat 0:=by
 unfold wordM readM
 have:bitI 0 level.toNat=false:=by simp [bitI]
 rw [this]
 rfl
theorem bit0 (k:Nat):bitI 0 k=false:=by simp [bitI]
theorem endM_bare (page:Int) (M:Mach) (level x:Int) (doom:Bool):(endM page 0 M level x doom).2=if dKind level x=0 then ⟨0,0,0,0⟩ else if dKind level x=2\/dKind level x=3 then ⟨1,dOut level x+page % sizR level x,dPerm level x,sizR level x⟩ else ⟨3,0,0,0⟩:=by
 unfold endM
 split
 ·rfl
 ·split <;> rfl
def fromR (n page level x:Int) (R:HitR):HitR :=
 if dKind level x=0 then ⟨0,0,0,0⟩
 else if dKind level x=1/\dOut level x < n/\level < 3 then R
 else if dKind level x=2 then ⟨1,dOut level x+page % 16,dPerm level x,16⟩
 else if dKind level x=3 then ⟨1,dOut level x,dPerm level x,1⟩
 else ⟨3,0,0,0⟩
theorem from_end (zs:List Int) (page level frame:Int) (R:HitR) (h:level=3):fromR (nfr zs.length) page level (wordM (bare zs) page 0 level frame) R=(goM page 0 0 (bare zs) level frame false).2:=by
 show _=(endM page 0 (bare zs) level _ false).2
 rw [endM_bare]
 unfold fromR sizR
 generalize wordM (bare zs) page 0 level frame=x
 by_cases h0:dKind level x=0
 ·rw [if_pos h0,if_pos h0]
 ·rw [if_neg h0,if_neg h0,if_neg (by omega)]
  by_cases h2:dKind level x=2
  ·simp [h2]
  ·by_cases h3:dKind level x=3
   ·simp [h3]
   ·simp [h2,h3]
theorem from_step (zs:List Int) (page level frame:Int) (d:Nat) (h:level < 3):fromR (nfr zs.length) page level (wordM (bare zs) page 0 level frame) (goM page 0 d (bare zs) (level+1) (dOut level (wordM (bare zs) page 0 level frame)) false).2=(goM page 0 (d+1) (bare zs) level frame false).2:=by
 conv=>rhs; unfold goM
 have hs:stepM page 0 (bare zs) level (wordM (bare zs) page 0 level frame) false=bare zs:=by
  unfold stepM; rw [if_neg (by rw [bit0]; simp)]
 rw [hs]
 generalize wordM (bare zs) page 0 level frame=x
 have hm:(bare zs).mem=zs:=rfl
 unfold fromR leadsM
 rw [hm]
 by_cases h1:dKind level x=1/\dOut level x < nfr zs.length
 ·rw [if_neg (by omega),if_pos ⟨h1.1,h1.2,h⟩,if_pos (by simp [h1])]
 ·have e1:¬ (dKind level x=1/\dOut level x < nfr zs.length/\level < 3):=fun h'=>h1 ⟨h'.1,h'.2.1⟩
  have e2:¬ ((decide (dKind level x=1) && decide (dOut level x < nfr zs.length))=true):=by
   simp only [Bool.and_eq_true,decide_eq_true_eq]; exact h1
  rw [if_neg e1,if_neg e2]
  rw [endM_bare]
  unfold sizR
  by_cases h0:dKind level x=0
  ·rw [if_pos h0,if_pos h0]
  ·rw [if_neg h0,if_neg h0]
   by_cases h2:dKind level x=2
   ·simp [h2]
   ·by_cases h3:dKind level x=3
    ·simp [h3]
    ·simp [h2,h3]
def walkZ (zs:List Int) (page:Int):HitR:=if nfr zs.length=0\/pageOk page=false then ⟨0,0,0,0⟩ else (goM page 0 2 (bare zs) 1 0 false).2
set_option maxHeartbeats 1000000 in
theorem sound_any (g:Nat) (zs:List Int) (c:Nat) (p:P3) (F:Nat) (hF:p.fr=F) (hF2:F * 16+16<=zs.length) (hlen:zs.length<=8192) (hcc:zs.length<=c) (n:Int) (hn:n * 16=zs.length)
  (hd:∀ i,i < 16->∀ w,Calls Tryz.prog 151 #[.int .i64 p.lv,.int .u64 (wordAt zs p.fr i)] w fun e w'=>e=.returned (.agg #[.int .i64 (dKind p.lv (wordAt zs p.fr i)),.int .i64 (dOut p.lv (wordAt zs p.fr i)),.int .i64 (dPerm p.lv (wordAt zs p.fr i))])/\Below w.heap.size w w')
  (w:World) (hg:CRow w g zs) :
  Calls Tryz.prog 149 #[.agg #[.slice (some ⟨g,0,none⟩) zs.length c],.agg #[.int .i64 p.fr,.int .i64 p.lv,.int .i64 p.pg]] w fun e w'=>e=.returned (.bool (soundP zs n p))/\Below w.heap.size w w':=by
 obtain ⟨w2,hw2⟩:∃ w2,w2=(w.alloc (.cells #[.slice (some ⟨g,0,none⟩) zs.length c] 35)).alloc (.cells #[.int .i64 p.fr,.int .i64 p.lv,.int .i64 p.pg] 67):=⟨_,rfl⟩
 have hz2:w2.heap.size=w.heap.size+2:=by rw [hw2]; simp
 have hb2:Below w.heap.size w w2:=by rw [hw2]; exact ((Below.refl _ _).alloc (Nat.le_refl _) _).alloc (by simp) _
 have q0:w2.cell? ⟨w.heap.size,0,none⟩=some (.slice (some ⟨g,0,none⟩) zs.length c):=by rw [hw2]; simp [go_sem]
 have q2:w2.cell? ⟨w.heap.size+1,1,none⟩=some (.int .i64 p.lv):=by rw [hw2]; simp [go_sem]
 have htab:=tableAt_any g zs c F hF2 hlen hcc w2 (hg.below hb2 hg.lt)
 rw [hw2,<- hF] at htab
 have HQ:Hid (w2.cell? ⟨w.heap.size,0,none⟩=some (.slice (some ⟨g,0,none⟩) zs.length c)/\w2.cell? ⟨w.heap.size+1,1,none⟩=some (.int .i64 p.lv)):=⟨q0,q2⟩
 have HZ:Hid (w2.heap.size=w.heap.size+2):=hz2
 have HW2:Hid (w2=_):=hw2
 have HB2:Hid (Below _ _ _):=hb2
 have HD:Hid _:=hd
 have HF:Hid (p.fr=F):=hF
 clear hz2 hw2 hb2 q0 q2 hd hF hg
 go_enter Tryz.func149,Tryz.ntmps149
 go_wp2_with fail
 refine htab.mono ?_
 rintro e wt ⟨⟨T,rfl,hTs,hT⟩,hbt⟩
 have hbt2:Below w2.heap.size w2 wt:=by rw [HW2.out]; exact hbt
 have HT:Hid _:=hT
 clear htab hT hTs hbt
 go_wp2_with fail
 go_loopw [12] (fun iv wr=>∃ k:Nat,k<=16/\iv=.int .i64 k/\(List.range k).all (soundW zs n p)=true/\Below w2.heap.size w2 wr) (fun iv _=>16 - (intOf iv).toNat)
 case atStart=>exact ⟨0,by omega,rfl,rfl,hbt2⟩
 case round =>
  obtain ⟨k,hk,rfl,hall,hb⟩:=hrel
  have hsz:=hb.size
  have hz:=HZ.out
  by_cases hlt:k < 16
  ·obtain ⟨q0,q2⟩:=HQ.out
   have c0:=(hb.cell (p:=⟨w.heap.size,0,none⟩) (by simp; omega)).trans q0
   have c2:=(hb.cell (p:=⟨w.heap.size+1,1,none⟩) (by simp; omega)).trans q2
   have hTk:=HT.out k hlt
   have ew:zs.getD (F * 16+k) 0=wordAt zs p.fr k:=by simp [wordAt,HF.out]; congr 1
   rw [ew] at hTk
   have hdk:=HD.out k hlt
   have dO:=dOut_lo p.lv (wordAt zs p.fr k)
   have hsw:=all_range_succ (soundW zs n p) k
   rw [hall,Bool.true_and] at hsw
   have hfa:soundW zs n p k=false->soundP zs n p=false:=fun h=>by rw [soundP,all_range_false _ k 16 hlt h]
   have hsk:soundW zs n p k=!(decide (dKind p.lv (wordAt zs p.fr k)=4) || (decide (dKind p.lv (wordAt zs p.fr k)=1) && decide (n<=dOut p.lv (wordAt zs p.fr k)))):=rfl
   have HSW:Hid _:=hsw
   have HFA:Hid _:=hfa
   have HBk:Hid (Below _ _ _):=hb
   have N0:w.heap.size+2<=wr.heap.size:=by omega
   clear ew hsw hfa hall hb q0 q2 hz hsz hbt2
   generalize wordAt zs p.fr k=X at *
   generalize dKind p.lv X=K at *
   generalize dOut p.lv X=O at *
   generalize dPerm p.lv X=M at *
   have HSK:Hid _:=hsk
   have hix:=run_index_tab T k hlt X hTk
   have hfr:=hasFrame_any (some ⟨g,0,none⟩) zs.length c O n hn dO.1 hlen
   have L1:(0:Int)<=(k:Int):=by omega
   have L2:(k:Int) < 16:=by omega
   clear hsk hTk
   go_wp2_with fail
   refine (hdk wr).mono ?_
   rintro e w1 ⟨rfl,hb1⟩
   have hs1:=hb1.size
   have e0:=(hb1.cell (p:=⟨w.heap.size,0,none⟩) (by simp; omega)).trans c0
   have N1:w.heap.size < w1.heap.size:=by omega
   have hbw:Below w2.heap.size w2 (w1.alloc (.cells #[.int .i64 K,.int .i64 O,.int .i64 M] 126)):=(HBk.out.trans (hb1.mono HBk.out.size)).alloc (by have:=HBk.out.size; omega) _
   have HBW:Hid (Below _ _ _):=hbw
   clear c0 c2 hdk hix hb1 hbw
   by_cases hK4:K=4
   ·subst hK4
    have HFA2:Hid (soundP zs n p=false):=HFA.out (by rw [HSK.out]; simp)
    clear HFA HSW HSK
    go_wp2_with fail
    go_ret
    exact ⟨by rw [HFA2.out]; rfl,HB2.out.trans (HBW.out.mono (by have:=HZ.out; omega))⟩
   ·by_cases hK1:K=1
    ·subst hK1
     by_cases hO:O < n
     ·have hO':decide (O < n)=true:=by simpa using hO
      rw [hO'] at hfr
      have HST:Hid ((List.range (k+1)).all (soundW zs n p)=true):=by
       exact (show _=true by rw [HSW.out,HSK.out]; simp; omega)
      clear HFA HSW HSK
      go_wp2_with (go_at_call 155; refine (hfr _).mono ?_; rintro e w4 ⟨rfl,hb4⟩)
      go_roundw
      case rel=>exact ⟨k+1,by omega,by go_num,HST.out,HBW.out.trans (hb4.mono (by have:=HBW.out.size; omega))⟩
      case measure=>simp [intOf]; omega
     ·have hO':decide (O < n)=false:=by simpa using hO
      rw [hO'] at hfr
      have HFA2:Hid (soundP zs n p=false):=HFA.out (by rw [HSK.out]; simp; omega)
      clear HFA HSW HSK
      go_wp2_with (go_at_call 155; refine (hfr _).mono ?_; rintro e w4 ⟨rfl,hb4⟩)
      go_ret
      exact ⟨by rw [HFA2.out]; rfl,HB2.out.trans ((HBW.out.trans (hb4.mono (by have:=HBW.out.size; omega))).mono (by have:=HZ.out; omega))⟩
    ·have hK4':(K == 4)=false:=by simpa using hK4
     have hK1':(K == 1)=false:=by simpa using hK1
     have HST:Hid ((List.range (k+1)).all (soundW zs n p)=true):=by
      exact (show _=true by rw [HSW.out,HSK.out]; simp [hK4,hK1])
     clear HFA HSW HSK
     go_wp2_with fail
     go_roundw
     case rel=>exact ⟨k+1,by omega,by go_num,HST.out,HBW.out⟩
     case measure=>simp [intOf]; omega
  ·have e:k=16:=by omega
   subst e
   have hS:soundP zs n p=true:=hall
   have HS:Hid _:=hS
   clear hS hall
   go_wp2_with fail
   go_ret
   exact ⟨by rw [HS.out]; rfl,HB2.out.trans (hb.mono (by omega))⟩
theorem zero512:Tryz.zeroCells237=Array.replicate 512 (.bool false):=by kernel_rfl
def seen (ps:List P3) (i:Nat) (f:Nat):Bool:=(List.range i).any fun j=>decide ((pAt ps j).fr=(f:Int))
theorem seen_succ (ps:List P3) (i f:Nat):seen ps (i+1) f=(seen ps i f || decide ((pAt ps i).fr=(f:Int))):=by
 simp [seen,List.range_succ,List.any_append]
theorem seen_fresh (ps:List P3) (i F:Nat) (h:(pAt ps i).fr=F):freshP ps i=!seen ps i F:=by
 simp only [freshP,seen,h,List.not_any_eq_all_not]
 congr 1
 funext j
 by_cases e:(F:Int)=(pAt ps j).fr
 ·simp [e]
 ·simp [e]
  exact fun h=>e h.symm
set_option maxHeartbeats 1000000 in
set_option maxRecDepth 100000 in
theorem isTree_any (g:Nat) (zs:List Int) (c:Nat) (ps:List P3) (hps:PsOk zs ps) (hlen:zs.length<=8192) (hcc:zs.length<=c) (n:Int) (hn:n * 16=zs.length)
  (hsd:∀ i w,i < ps.length->CRow w g zs->Calls Tryz.prog 149 #[.agg #[.slice (some ⟨g,0,none⟩) zs.length c],.agg #[.int .i64 (pAt ps i).fr,.int .i64 (pAt ps i).lv,.int .i64 (pAt ps i).pg]] w fun e w'=>e=.returned (.bool (soundP zs n (pAt ps i)))/\Below w.heap.size w w')
  (v:Value) (bv:Nat) (w:World) (hg:CRow w g zs) (hv:PRow w bv v ps) :
  Calls Tryz.prog 89 #[.agg #[.slice (some ⟨g,0,none⟩) zs.length c],v] w fun e w'=>e=.returned (.bool (treeTo zs n ps ps.length))/\Below w.heap.size w w':=by
 obtain ⟨a3,c3,rfl,hform⟩:=hv.form
 obtain ⟨gp,N,f,rfl,_,hrw,hN,hpa⟩:=hform hps.pos
 have hpl:=hps.le
 obtain ⟨wb,hwb⟩:∃ wb,wb=w.alloc (.cells #[.slice (some ⟨g,0,none⟩) zs.length c] 35):=⟨_,rfl⟩
 have hzb:wb.heap.size=w.heap.size+1:=by rw [hwb]; simp
 have hbb:Below w.heap.size w wb:=by rw [hwb]; exact (Below.refl _ _).alloc (Nat.le_refl _) _
 have qb:wb.cell? ⟨w.heap.size,0,none⟩=some (.slice (some ⟨g,0,none⟩) zs.length c):=by rw [hwb]; simp [go_sem]
 have HPR:Hid (w.rowIs gp 67 N f/\ps.length * 3<=N/\∀ i,i < ps.length->f (i * 3)=.int .i64 (pAt ps i).fr/\f (i * 3+1)=.int .i64 (pAt ps i).lv/\f (i * 3+2)=.int .i64 (pAt ps i).pg):=⟨hrw,hN,hpa⟩
 have HG:Hid (CRow w g zs):=hg
 have HPS:Hid (PsOk zs ps):=hps
 have HSD:Hid _:=hsd
 have HWB:Hid (wb=_):=hwb
 have HZB:Hid (wb.heap.size=w.heap.size+1):=hzb
 have HBB:Hid (Below _ _ _):=hbb
 have HQB:Hid (wb.cell? ⟨w.heap.size,0,none⟩=some (.slice (some ⟨g,0,none⟩) zs.length c)):=qb
 clear hv hform hrw hN hpa hg hps hsd hwb hzb hbb qb
 go_enter Tryz.func89,Tryz.ntmps89
 go_wp2_with fail
 go_loopw [10] (fun iv wr=>∃ i:Nat,i<=ps.length/\iv=.int .i64 i/\treeTo zs n ps i=true/\wr.rowIs (w.heap.size+1) 237 512 (fun q=>.bool (seen ps i q))/\Below (w.heap.size+1) wb wr) (fun iv _=>ps.length - (intOf iv).toNat)
 case atStart =>
  refine ⟨0,Nat.zero_le _,rfl,rfl,?_,?_⟩
  ·have h:=World.rowIs_alloc wb Tryz.zeroCells237 237 (fun q=>.bool (seen ps 0 q)) (by
    intro i hi
    rw [zero512] at hi ⊢
    rw [Array.getElem?_eq_getElem hi]
    simp [seen])
   rw [HZB.out,HWB.out] at h
   rw [zero512,Array.size_replicate] at h
   rw [zero512]
   exact h
  ·rw [HWB.out]
   exact (Below.refl (w.heap.size+1) _).alloc (by simp) _
 case round =>
  obtain ⟨i,hi,rfl,htr,hrch,hb⟩:=hrel
  by_cases hlt:i < ps.length
  ·obtain ⟨hrw,hN,hpa⟩:=HPR.out
   obtain ⟨F,hF,hF2⟩:=HPS.out.ok i hlt
   have hbw:Below w.heap.size w wr:=HBB.out.trans (hb.mono (by omega))
   have hr1:wr.rowIs gp _ N f:=hrw.of_block (hbw.block gp hrw.lt)
   obtain ⟨x1,x2,x3⟩:=hpa i hlt
   have k1:=hr1.cell (i:=i * 3) (by omega)
   have k2:=hr1.cell (i:=i * 3+1) (by omega)
   have k3:=hr1.cell (i:=i * 3+2) (by omega)
   rw [x1,hF] at k1
   rw [x2] at k2
   rw [x3] at k3
   have hgr:CRow wr g zs:=HG.out.below hbw HG.out.lt
   have c0:=(hb.cell (p:=⟨w.heap.size,0,none⟩) (by simp)).trans HQB.out
   have rF:=hrch.cell (i:=F) (by omega)
   have fF:=hrch.frozen F
   have hsd:=HSD.out i
   rw [hF] at hsd
   have hfs:=seen_fresh ps i F hF
   have hsu:=treeTo_succ zs n ps i
   rw [htr,Bool.true_and,hfs] at hsu
   have htf:(freshP ps i && soundP zs n (pAt ps i))=false->treeTo zs n ps ps.length=false:=treeTo_false zs n ps i _ hlt
   rw [hfs] at htf
   have hss:∀ q,seen ps (i+1) q=(seen ps i q || decide ((F:Int)=(q:Int))):=fun q=>by rw [seen_succ,hF]
   have hrl:=hrch.lt
   have HRCH:Hid (wr.rowIs (w.heap.size+1) _ 512 _):=hrch
   have HB:Hid (Below (w.heap.size+1) wb wr):=hb
   have HSS:Hid _:=hss
   have HSU:Hid _:=hsu
   have HTF:Hid _:=htf
   have HGR:Hid (CRow _ _ _):=hgr
   have HSDI:Hid _:=hsd
   have I1:(0:Int)<=(i:Int):=by omega
   have I2:(i:Int) < (ps.length:Int):=by omega
   have F1:(F:Int) < 512:=by omega
   have N1:w.heap.size < wr.heap.size:=by omega
   clear hrw hpa x1 x2 x3 hr1 hgr hsd hfs hsu htf hss hrch hb hbw htr hF HPR HSD
   generalize (pAt ps i).lv=L at *
   generalize (pAt ps i).pg=G at *
   generalize soundP zs n (pAt ps i)=S at *
   cases hsn:seen ps i F
   ·rw [hsn] at rF
    go_wp2_with fail
    refine (HSDI.out _ hlt ?_).mono ?_
    ·exact HGR.out.of_block (Below.heap_alloc _ _ _ HGR.out.lt)
    rintro e w4 ⟨rfl,hb4⟩
    have hs4:=hb4.size
    simp at hs4
    have hrow4:w4.rowIs (w.heap.size+1) 237 512 (fun q=>.bool (seen ps i q)):=(HRCH.out.alloc (.cells #[.int .i64 F,.int .i64 L,.int .i64 G] 67)).of_block (hb4.block _ (by simp; omega))
    have hb5:Below (w.heap.size+1) wb w4:=(HB.out.alloc (by omega) (.cells #[.int .i64 F,.int .i64 L,.int .i64 G] 67)).trans (hb4.mono (by simp; omega))
    have p1:w4.cell? ⟨wr.heap.size,0,none⟩=some (.int .i64 F):=by rw [hb4.cell (by simp)]; simp [go_sem]
    have r1:=hrow4.cell (i:=F) (by omega)
    have f1:=hrow4.frozen F
    have HR4:Hid (w4.rowIs (w.heap.size+1) _ 512 _):=hrow4
    have HB5:Hid (Below _ wb w4):=hb5
    clear hrow4 hb5 hb4 k1 k2 k3 c0 rF fF
    cases S
    ·have HFA2:Hid (treeTo zs n ps ps.length=false):=HTF.out (by simp)
     go_wp2_with fail
     go_ret
     exact ⟨by rw [HFA2.out]; rfl,HBB.out.trans (HB5.out.mono (by omega))⟩
    ·have HT2:Hid (treeTo zs n ps (i+1)=true):=by
      exact (show _=true by rw [HSU.out,hsn]; rfl)
     clear hsn
     go_wp2_with fail
     go_roundw
     case rel =>
      refine ⟨i+1,by omega,by go_num,HT2.out,?_,HB5.out.setCell (by simp) _⟩
      refine (HR4.out.set F _).congr ?_
      intro q hq
      rw [HSS.out q]
      by_cases e:q=F
      ·subst e; simp
      ·rw [if_neg e]; simp [show ¬ (F:Int)=(q:Int) by omega]
     case measure=>simp [intOf]; omega
   ·rw [hsn] at rF
    have HFA2:Hid (treeTo zs n ps ps.length=false):=HTF.out (by rw [hsn]; rfl)
    clear hsn
    go_wp2_with fail
    go_ret
    exact ⟨by rw [HFA2.out]; rfl,HBB.out.trans ((HB.out.mono (by omega)).alloc (by omega) _)⟩
  ·have e:i=ps.length:=by omega
   subst e
   have HT:Hid _:=htr
   clear htr
   go_wp2_with fail
   go_ret
   exact ⟨by rw [HT.out]; rfl,HBB.out.trans (hb.mono (by omega))⟩
end Go.Proofs.YtnmhkgmmpkjjeaaGreat
