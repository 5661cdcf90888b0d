import Derived.Test.YtnmhkgmmpkjjeaaG10
import Derived.Test.YtnmhkgmmpkjjeaaG08
namespace Go.Proofs.Ytnmhkgmmpkjjeaa
open Go.ChangeShapes Go.WideShapes Go.ChangeAt Go.RowKit
set_option linter.unusedVariables false
theorem specValid_any (s:SV) (M:Mach) (b:Nat) (w:World) (hs:M.Small) (h:MRow w b (s.mv M) M) :
  Calls Try.prog 80 #[.agg #[.slice s.a1 M.mem.length s.c1,.slice s.a2 M.pend.length s.c2,.slice s.a3 M.tlb.length s.c3,.slice s.a4 M.wc.length s.c4]] w fun e w'=>e=.returned (.bool (validB M))/\Below w.heap.size w w':=by
 cases hv:validL M
 ·have:validB M=false:=by unfold validB; rw [hv]; rfl
  rw [this]
  exact valid_no s M b w hs h hv
 ·exact valid_yes s M b w hs h hv
def readTo (M:Mach) (a:Int):Nat->Int
 | 0=>M.mem.getD a.toNat 0
 | k+1=>if (eAt eWrite M.pend k).addr=a then (eAt eWrite M.pend k).word else readTo M a k
def readM (M:Mach) (a:Int) (late:Bool):Int:=if late then readTo M a M.pend.length else M.mem.getD a.toNat 0
theorem mem_cell {W:World} {b:Nat} {s:SV} {M:Mach} (h:MRow W b (s.mv M) M) (A:Nat) (hA:A < M.mem.length):∃ g,s.a1=some ⟨g,0,none⟩/\g < W.heap.size/\W.cell? ⟨g,A,none⟩=some (.int .u64 (M.mem.getD A 0)):=by
 obtain ⟨ga,ca,hae,haf⟩:=eWord_form h.w
 obtain ⟨g,N,f,hag,_,hr,hN,hf⟩:=haf (by omega)
 have h2:Value.slice s.a1 M.mem.length s.c1=.slice ga M.mem.length ca:=hae
 simp only [Value.slice.injEq] at h2
 have c:=hr.cell (i:=A) (by omega)
 rw [hf A hA] at c
 exact ⟨g,h2.1.trans hag,hr.lt,c⟩
set_option maxHeartbeats 2000000 in
theorem read_any (s:SV) (M:Mach) (b:Nat) (A:Nat) (late:Bool) (w:World) (hs:M.Small) (hA:A < M.mem.length) (h:MRow w b (s.mv M) M) :
  Calls Try.prog 186 #[.agg #[.slice s.a1 M.mem.length s.c1,.slice s.a2 M.pend.length s.c2,.slice s.a3 M.tlb.length s.c3,.slice s.a4 M.wc.length s.c4],.int .i64 A,.bool late] w fun e w'=>e=.returned (.int .u64 (readM M A late))/\Below w.heap.size w w':=by
 have y1:=hs.w
 have y2:=hs.p
 obtain ⟨gm,hgm,hgl,hcm⟩:=mem_cell h A hA
 have htn:(A:Int).toNat=A:=by omega
 have A1:(0:Int)<=(A:Int):=by omega
 have A2:(A:Int) < (M.mem.length:Int):=by omega
 cases late
 ·have hr:readM M A false=M.mem.getD A 0:=by simp [readM]
  rw [hr,hgm]
  generalize M.mem.getD A 0=X at *
  clear hr hgm h
  go_enter Try.func186,Try.ntmps186
  go_wp2_with fail
  go_ret
  exact ⟨rfl,(Below.refl _ _).alloc (Nat.le_refl _) _⟩
 ·have hr:readM M A true=readTo M A M.pend.length:=rfl
  rw [hr]
  have hr0:readTo M A 0=M.mem.getD A 0:=by simp [readTo]
  obtain ⟨wb,hwb⟩:∃ wb,wb=w.alloc (.cells #[.slice s.a1 M.mem.length s.c1,.slice s.a2 M.pend.length s.c2,.slice s.a3 M.tlb.length s.c3,.slice s.a4 M.wc.length s.c4] 38):=⟨_,rfl⟩
  have hbb:Below w.heap.size w wb:=by rw [hwb]; exact (Below.refl _ _).alloc (Nat.le_refl _) _
  have q0:wb.cell? ⟨w.heap.size,0,none⟩=some (.slice s.a1 M.mem.length s.c1):=by rw [hwb]; simp [go_sem]
  have q1:wb.cell? ⟨w.heap.size,1,none⟩=some (.slice s.a2 M.pend.length s.c2):=by rw [hwb]; simp [go_sem]
  have cm:=(hbb.cell (p:=⟨gm,A,none⟩) (by simpa using hgl)).trans hcm
  have HP:Hid (ERow eWrite wb b (.slice s.a2 M.pend.length s.c2) M.pend):=h.p.below hbb
  have HBB:Hid (Below _ w wb):=hbb
  have HWB:Hid (wb=_):=hwb
  have HR0:Hid _:=hr0
  have HGM:Hid (s.a1=_):=hgm
  have HC:Hid (wb.cell? ⟨w.heap.size,0,none⟩=some (.slice s.a1 M.mem.length s.c1)/\wb.cell? ⟨w.heap.size,1,none⟩=some (.slice s.a2 M.pend.length s.c2)/\wb.cell? ⟨gm,A,none⟩=some (.int .u64 (M.mem.getD A 0))):=⟨q0,q1,cm⟩
  clear h hbb hwb hr0 hgm q0 q1 cm hcm hr
  go_enter Try.func186,Try.ntmps186
  go_wp2_with fail
  go_loopw [7] (fun iv wr=>∃ k:Nat,k<=M.pend.length/\iv=.int .i64 ((k:Int) - 1)/\readTo M A M.pend.length=readTo M A k/\wr=wb) (fun iv _=>(intOf iv+1).toNat)
  case atStart=>exact ⟨M.pend.length,Nat.le_refl _,rfl,rfl,HWB.out.symm⟩
  case round =>
   obtain ⟨k,hk,rfl,hrd,rfl⟩:=hrel
   obtain ⟨q0,q1,cm⟩:=HC.out
   cases k with
   | zero =>
    have HRD:Hid _:=hrd.trans HR0.out
    rw [HGM.out] at q0
    clear hrd
    generalize M.mem.getD A 0=X at *
    go_wp2_with fail
    go_ret
    exact ⟨by rw [HRD.out]; rfl,HBB.out⟩
   | succ i =>
    obtain ⟨ga,ca,hae,haf⟩:=HP.out.form
    obtain ⟨g,N,f,hag,_,hr,hN,hf⟩:=haf (by omega)
    have hga:s.a2=some ⟨g,0,none⟩:=by
     simp only [Value.slice.injEq] at hae
     exact hae.1.trans hag
    have hN':M.pend.length * 2<=N:=hN
    rw [hga] at q1
    have k0:=hr.cell (i:=i * 2) (by omega)
    rw [show f (i * 2)=.int .i64 (eAt eWrite M.pend i).addr from hf i (by omega) 0 (by decide)] at k0
    have k1:=hr.cell (i:=i * 2+1) (by omega)
    rw [show f (i * 2+1)=.int .u64 (eAt eWrite M.pend i).word from hf i (by omega) 1 (by decide)] at k1
    have hst:readTo M A (i+1)=if (eAt eWrite M.pend i).addr=(A:Int) then (eAt eWrite M.pend i).word else readTo M A i:=rfl
    have L1:(0:Int)<=((i+1:Nat):Int) - 1:=by omega
    have L2:((i+1:Nat):Int) - 1 < (M.pend.length:Int):=by omega
    have L3:(((i+1:Nat):Int) - 1).toNat=i:=by omega
    have L4:((i+1:Nat):Int) - 1=(i:Int):=by omega
    rw [L4]
    rw [L4] at L1 L2
    have HRD:Hid _:=hrd
    have HST:Hid _:=hst
    clear hrd hst hr hf hae haf hga hN L3 L4
    generalize (eAt eWrite M.pend i).addr=B at *
    generalize (eAt eWrite M.pend i).word=C at *
    by_cases hB:B=(A:Int)
    ·have hB':(B == (A:Int))=true:=by simpa using hB
     have hv:readTo M A M.pend.length=C:=by rw [HRD.out,HST.out,if_pos hB]
     have HV:Hid _:=hv
     clear hB hv
     go_wp2_with fail
     go_ret
     exact ⟨by rw [HV.out]; rfl,HBB.out⟩
    ·have hB':(B == (A:Int))=false:=by simpa using hB
     have hv:readTo M A M.pend.length=readTo M A i:=by rw [HRD.out,HST.out,if_neg hB]
     have HV:Hid _:=hv
     clear hB hv
     go_wp2_with fail
     go_roundw
     case rel=>exact ⟨i,by omega,rfl,HV.out,by first | trivial | rfl⟩
     case measure=>simp [intOf] <;> omega
end Go.Proofs.Ytnmhkgmmpkjjeaa
namespace Go.Proofs.Ytnmhkgmmpkjjeaa
open Go.ChangeShapes Go.WideShapes Go.ChangeAt Go.RowKit
set_option linter.unusedVariables false
structure HitR where
 kind:Int
 out:Int
 perm:Int
 size:Int
def hitV (h:HitR):Value:=.agg #[.int .i64 h.kind,.int .i64 h.out,.int .i64 h.perm,.int .i64 h.size]
def anyR (f:Nat->Bool) (n:Nat):Bool:=(List.range n).any f
theorem anyR_zero (f:Nat->Bool):anyR f 0=false:=rfl
theorem anyR_succ (f:Nat->Bool) (n:Nat):anyR f (n+1)=(anyR f n || f n):=by simp [anyR,List.range_succ,List.any_append]
theorem anyR_true (f:Nat->Bool) (i n:Nat) (hi:i < n) (h:f i=true):anyR f n=true:=by
 unfold anyR
 rw [List.any_eq_true]
 exact ⟨i,by simpa using hi,h⟩
def firstR (f:Nat->Bool):Nat->Nat->Nat
 | 0,i=>i
 | n+1,i=>if f i then i else firstR f n (i+1)
def wcEq (a b:WcE):Bool:=decide (a.level=b.level) && decide (a.page=b.page) && decide (a.table=b.table) && (a.doom == b.doom)
def tlbEq (a b:TlbE):Bool:=sameB a b && (a.doom == b.doom)
def hasWc (M:Mach) (e:WcE):Bool:=anyR (fun i=>wcEq (eAt eWc M.wc i) e) M.wc.length
def hasTlb (M:Mach) (e:TlbE):Bool:=anyR (fun i=>tlbEq (eAt eTlb M.tlb i) e) M.tlb.length
def addWcM (M:Mach) (e:WcE):Mach:=if hasWc M e || decide (256<=M.wc.length) then M else ⟨M.mem,M.pend,M.tlb,M.wc ++ [e]⟩
def addTlbM (M:Mach) (e:TlbE):Mach:=if hasTlb M e || decide (256<=M.tlb.length) then M else ⟨M.mem,M.pend,M.tlb ++ [e],M.wc⟩
def wordM (M:Mach) (page choice level frame:Int):Int:=readM M (frame * 16+idx page level) (bitI choice level.toNat)
def sizR (level x:Int):Int:=if dKind level x=2 then 16 else 1
def endM (page choice:Int) (M:Mach) (level x:Int) (doom:Bool):Mach × HitR :=
 if dKind level x=0 then (M,⟨0,0,0,0⟩)
 else if dKind level x=2\/dKind level x=3 then
  (if bitI choice 6 then addTlbM M ⟨page - page % sizR level x,sizR level x,dOut level x,dPerm level x,doom⟩ else M,⟨1,dOut level x+page % sizR level x,dPerm level x,sizR level x⟩)
 else (M,⟨3,0,0,0⟩)
def leadsM (M:Mach) (level x:Int):Bool:=decide (dKind level x=1) && decide (dOut level x < nfr M.mem.length)
def stepM (page choice:Int) (M:Mach) (level x:Int) (doom:Bool):Mach :=
 if bitI choice (level+3).toNat then addWcM M ⟨level+1,page - page % cov level,dOut level x,doom⟩ else M
def goM (page choice:Int):Nat->Mach->Int->Int->Bool->Mach × HitR
 | 0,M,level,frame,doom=>endM page choice M level (wordM M page choice level frame) doom
 | d+1,M,level,frame,doom =>
  if leadsM M level (wordM M page choice level frame) then
   goM page choice d (stepM page choice M level (wordM M page choice level frame) doom) (level+1) (dOut level (wordM M page choice level frame)) doom
  else endM page choice M level (wordM M page choice level frame) doom
def serves (M:Mach) (page level:Int) (i:Nat):Bool:=decide ((eAt eWc M.wc i).level=level) && wcCov (eAt eWc M.wc i) page
def findW (M:Mach) (page level:Int):Nat:=firstR (serves M page level) M.wc.length 0
def startM (M:Mach) (page choice:Int):WcE :=
 if bitI choice 0 then
  if findW M page 3 < M.wc.length then eAt eWc M.wc (findW M page 3)
  else if findW M page 2 < M.wc.length then eAt eWc M.wc (findW M page 2)
  else ⟨1,0,0,false⟩
 else ⟨1,0,0,false⟩
def walkM (M:Mach) (page choice:Int):Mach × HitR :=
 goM page choice (3 - (startM M page choice).level).toNat M (startM M page choice).level (startM M page choice).table (startM M page choice).doom
theorem firstR_le (f:Nat->Bool):∀ n i,firstR f n i<=i+n
 | 0,i=>Nat.le_refl _
 | n+1,i=>by
  unfold firstR
  split
  ·omega
  ·have:=firstR_le f n (i+1); omega
theorem firstR_hit (f:Nat->Bool):∀ n i,firstR f n i < i+n->f (firstR f n i)=true
 | 0,i,h=>by simp [firstR] at h
 | n+1,i,h=>by
  unfold firstR at h ⊢
  split
  ·assumption
  ·rename_i hf
   rw [if_neg hf] at h
   exact firstR_hit f n (i+1) (by omega)
theorem firstR_skip (f:Nat->Bool):∀ n i t,t<=n->(∀ j,j < t->f (i+j)=false)->firstR f n i=firstR f (n - t) (i+t)
 | n,i,0,_,_=>by simp
 | 0,i,t+1,h,_=>by omega
 | n+1,i,t+1,h,hf=>by
  have h0:=hf 0 (by omega)
  rw [Nat.add_zero] at h0
  conv=>lhs; unfold firstR
  rw [h0]
  simp only [Bool.false_eq_true,if_false]
  rw [firstR_skip f n (i+1) t (by omega) (fun j hj=>by have:=hf (j+1) (by omega); rw [show i+1+j=i+(j+1) by omega]; exact this)]
  rw [show n+1 - (t+1)=n - t by omega,show i+1+t=i+(t+1) by omega]
theorem firstR_at (f:Nat->Bool) (n t:Nat) (ht:t < n) (hf:∀ j,j < t->f j=false) (h:f t=true):firstR f n 0=t:=by
 rw [firstR_skip f n 0 t (by omega) (fun j hj=>by rw [Nat.zero_add]; exact hf j hj),Nat.zero_add]
 obtain ⟨m,hm⟩:∃ m,n - t=m+1:=⟨n - t - 1,by omega⟩
 rw [hm]
 unfold firstR
 rw [if_pos h]
theorem firstR_none (f:Nat->Bool) (n:Nat) (hf:∀ j,j < n->f j=false):firstR f n 0=n:=by
 rw [firstR_skip f n 0 n (Nat.le_refl _) (fun j hj=>by rw [Nat.zero_add]; exact hf j hj)]
 simp [firstR]
structure WOk (M:Mach):Prop where
 n0:nfr M.mem.length ≠ 0
 word:∀ i,0<=M.mem.getD i 0/\M.mem.getD i 0 < 2 ^ 64
 pw:∀ i,0<=(eAt eWrite M.pend i).word/\(eAt eWrite M.pend i).word < 2 ^ 64
 p:M.pend.length<=10000
 t:M.tlb.length<=256
 c:M.wc.length<=256
theorem WOk.small {M:Mach} (h:WOk M):M.Small:=by
 have:=nfr_le M.mem.length
 have:=nfr_mul M.mem.length h.n0
 exact ⟨by omega,by have:=h.p; omega,by have:=h.t; omega,by have:=h.c; omega⟩
theorem readTo_rng {M:Mach} (h:WOk M) (a:Int):∀ k,0<=readTo M a k/\readTo M a k < 2 ^ 64
 | 0=>h.word _
 | k+1=>by
  unfold readTo
  split
  ·exact h.pw k
  ·exact readTo_rng h a k
theorem wordM_rng {M:Mach} (h:WOk M) (page choice level frame:Int):0<=wordM M page choice level frame/\wordM M page choice level frame < 2 ^ 64:=by
 unfold wordM readM
 split
 ·exact readTo_rng h _ _
 ·exact h.word _
theorem addWcM_ok {M:Mach} (h:WOk M) (e:WcE):WOk (addWcM M e):=by
 unfold addWcM
 split
 ·exact h
 ·rename_i hn
  have hl:¬ 256<=M.wc.length:=by
   intro hc; apply hn; simp [hc]
  exact ⟨h.n0,h.word,h.pw,h.p,h.t,by simp; omega⟩
theorem addTlbM_ok {M:Mach} (h:WOk M) (e:TlbE):WOk (addTlbM M e):=by
 unfold addTlbM
 split
 ·exact h
 ·rename_i hn
  have hl:¬ 256<=M.tlb.length:=by
   intro hc; apply hn; simp [hc]
  exact ⟨h.n0,h.word,h.pw,h.p,by simp; omega,h.c⟩
theorem addWcM_mem (M:Mach) (e:WcE):(addWcM M e).mem=M.mem/\(addWcM M e).pend=M.pend/\(addWcM M e).tlb=M.tlb:=by
 unfold addWcM; split <;> simp
theorem stepM_ok {M:Mach} (h:WOk M) (page choice level x:Int) (doom:Bool):WOk (stepM page choice M level x doom):=by
 unfold stepM
 split
 ·exact addWcM_ok h _
 ·exact h
theorem stepM_mem (page choice:Int) (M:Mach) (level x:Int) (doom:Bool):(stepM page choice M level x doom).mem=M.mem/\(stepM page choice M level x doom).pend=M.pend/\(stepM page choice M level x doom).tlb=M.tlb:=by
 unfold stepM
 split
 ·exact addWcM_mem _ _
 ·simp
theorem endM_ok {M:Mach} (h:WOk M) (page choice level x:Int) (doom:Bool):WOk (endM page choice M level x doom).1:=by
 unfold endM
 split
 ·exact h
 ·split
  ·show WOk (if bitI choice 6=true then _ else _)
   split
   ·exact addTlbM_ok h _
   ·exact h
  ·exact h
theorem goM_ok (page choice:Int):∀ d {M:Mach},WOk M->∀ level frame doom,WOk (goM page choice d M level frame doom).1
 | 0,M,h,level,frame,doom=>endM_ok h _ _ _ _ _
 | d+1,M,h,level,frame,doom=>by
  unfold goM
  split
  ·exact goM_ok page choice d (stepM_ok h _ _ _ _ _) _ _ _
  ·exact endM_ok h _ _ _ _ _
theorem WOk.of {M:Mach} (hk:MOk M) (hv:validB M=true):WOk M:=by
 unfold validB at hv
 simp only [Bool.and_eq_true] at hv
 have hl:=hv.1.1.1
 unfold validL at hl
 simp only [Bool.and_eq_true,Bool.not_eq_true',decide_eq_false_iff_not,decide_eq_true_eq] at hl
 obtain ⟨⟨⟨a,b⟩,c⟩,d⟩:=hl
 refine ⟨a,hk.word,fun i=>?_,b,c,d⟩
 by_cases hi:i < M.pend.length
 ·have:=(hk.pend i hi).2
  have:=bounds_u64 this
  omega
 ·have:eAt eWrite M.pend i=eWrite.dflt:=by
   unfold eAt
   rw [List.getD_eq_getElem?_getD,List.getElem?_eq_none (by omega)]
   rfl
  rw [this]
  exact ⟨by decide,by decide⟩
theorem valid_wc {M:Mach} (hv:validB M=true) (i:Nat) (hi:i < M.wc.length):wcOkB (nfr M.mem.length) (eAt eWc M.wc i)=true:=by
 unfold validB at hv
 simp only [Bool.and_eq_true] at hv
 have:=hv.2
 unfold wcAll at this
 rw [List.all_eq_true] at this
 exact this i (by simpa using hi)
theorem valid_tlb {M:Mach} (hv:validB M=true) (i:Nat) (hi:i < M.tlb.length):tlbOkB (eAt eTlb M.tlb i)=true:=by
 unfold validB at hv
 simp only [Bool.and_eq_true] at hv
 have:=hv.1.2
 unfold tlbAll at this
 rw [List.all_eq_true] at this
 exact this i (by simpa using hi)
theorem valid_pend {M:Mach} (hv:validB M=true) (i:Nat) (hi:i < M.pend.length):0<=(eAt eWrite M.pend i).addr/\(eAt eWrite M.pend i).addr < M.mem.length:=by
 unfold validB at hv
 simp only [Bool.and_eq_true] at hv
 have:=hv.1.1.2
 unfold pendAll at this
 rw [List.all_eq_true] at this
 have:=this i (by simpa using hi)
 simpa [pendOkB] using this
theorem startM_ok {M:Mach} (hv:validB M=true) (page choice:Int):1<=(startM M page choice).level/\(startM M page choice).level<=3/\0<=(startM M page choice).table/\(startM M page choice).table < nfr M.mem.length:=by
 have h1:(1:Int)<=1/\(1:Int)<=3/\(0:Int)<=0/\0 < nfr M.mem.length:=by
  have hv':=hv
  unfold validB at hv'
  simp only [Bool.and_eq_true] at hv'
  have hl:=hv'.1.1.1
  unfold validL at hl
  simp only [Bool.and_eq_true,Bool.not_eq_true',decide_eq_false_iff_not,decide_eq_true_eq] at hl
  have:=nfr_mul _ hl.1.1.1
  omega
 have key:∀ i,i < M.wc.length->1<=(eAt eWc M.wc i).level/\(eAt eWc M.wc i).level<=3/\0<=(eAt eWc M.wc i).table/\(eAt eWc M.wc i).table < nfr M.mem.length:=by
  intro i hi
  have:=valid_wc hv i hi
  simp only [wcOkB,Bool.and_eq_true,Bool.or_eq_true,decide_eq_true_eq] at this
  omega
 unfold startM
 split
 ·split
  ·rename_i h
   exact key _ h
  ·split
   ·rename_i h
    exact key _ h
   ·exact h1
 ·exact h1
end Go.Proofs.Ytnmhkgmmpkjjeaa
namespace Go.Proofs.Ytnmhkgmmpkjjeaa
open Go.ChangeShapes Go.WideShapes Go.ChangeAt Go.RowKit
set_option linter.unusedVariables false
def zM:Mach:=⟨[],[],[],[]⟩
def zS:SV:=⟨none,0,none,0,none,0,none,0⟩
theorem ERow.nilz {α:Type} (E:Elt α) (w:World) (b:Nat):ERow E w b (.slice none 0 0) []:=⟨by simp [ecells],.inl ⟨rfl,rfl⟩⟩
theorem zM_row (w:World) (b:Nat):MRow w b (zS.mv zM) zM:=⟨ERow.nilz _ _ _,ERow.nilz _ _ _,ERow.nilz _ _ _,ERow.nilz _ _ _⟩
theorem zM_apart:(zS.mv zM).apart:=fun k=>⟨fun h=>(by cases h),fun h=>(by cases h),fun h=>(by cases h)⟩
theorem zM_small:zM.Small:=⟨by simp [zM],by simp [zM],by simp [zM],by simp [zM]⟩
def fillM (M:Mach) (page choice:Int):Mach:=if validB M && pageOk page && choiceOk choice then (walkM M page choice).1 else zM
theorem walkM_ok {M:Mach} (h:WOk M) (page choice:Int):WOk (walkM M page choice).1:=goM_ok page choice _ h _ _ _
theorem fillM_small {M:Mach} (hk:MOk M) (page choice:Int):(fillM M page choice).Small:=by
 unfold fillM
 split
 ·rename_i h
  have hv:validB M=true:=by
   simp only [Bool.and_eq_true] at h
   exact h.1.1
  exact (walkM_ok (WOk.of hk hv) page choice).small
 ·exact zM_small
end Go.Proofs.Ytnmhkgmmpkjjeaa
namespace Go.Proofs.Ytnmhkgmmpkjjeaa
open Go.ChangeShapes Go.WideShapes Go.ChangeAt Go.RowKit
set_option linter.unusedVariables false
def pairB (M:Mach) (i j:Nat):Bool:=meets (eAt eTlb M.tlb i).page (eAt eTlb M.tlb i).size (eAt eTlb M.tlb j).page (eAt eTlb M.tlb j).size && !sameB (eAt eTlb M.tlb i) (eAt eTlb M.tlb j)
def confT (M:Mach):Bool:=anyR (fun j=>anyR (fun i=>pairB M i j) j) M.tlb.length
def confB (M:Mach):Bool:=validB M && confT M
theorem anyR_none (f:Nat->Bool):∀ n,(∀ i,i < n->f i=false)->anyR f n=false
 | 0,_=>rfl
 | n+1,h=>by rw [anyR_succ,anyR_none f n (fun i hi=>h i (by omega)),h n (by omega)]; rfl
theorem confT_no {M:Mach} (h:∀ i j,i < j->j < M.tlb.length->pairB M i j=false):confT M=false :=
 anyR_none _ _ (fun j hj=>anyR_none _ _ (fun i hi=>h i j hi hj))
theorem confT_yes {M:Mach} (i j:Nat) (hi:i < j) (hj:j < M.tlb.length) (h:pairB M i j=true):confT M=true :=
 anyR_true _ j _ hj (anyR_true (fun i=>pairB M i j) i j hi h)
theorem sameB_comm (a b:TlbE):sameB a b=sameB b a:=by
 unfold sameB
 rw [Bool.eq_iff_iff]
 simp only [Bool.and_eq_true,decide_eq_true_eq]
 constructor <;> (rintro ⟨⟨⟨h1,h2⟩,h3⟩,h4⟩; exact ⟨⟨⟨h1.symm,h2.symm⟩,h3.symm⟩,h4.symm⟩)
structure TRng (e:TlbE):Prop where
 p0:0<=e.page
 p1:e.page < 4096
 s:e.size=1\/e.size=16
 m:e.page % e.size=0
theorem valid_trng {M:Mach} (hv:validB M=true) (i:Nat) (hi:i < M.tlb.length):TRng (eAt eTlb M.tlb i):=by
 have h1:=valid_tlb hv i hi
 unfold tlbOkB at h1
 simp only [Bool.and_eq_true,Bool.or_eq_true,decide_eq_true_eq] at h1
 have h2:0<=(eAt eTlb M.tlb i).page/\(eAt eTlb M.tlb i).page < 4096:=by simpa [pageOk] using h1.1.1.1.1.1.1.2
 exact ⟨h2.1,h2.2,h1.1.1.1.1.1.1.1,h1.1.1.1.1.1.2⟩
theorem cov_iff {e:TlbE} (he:TRng e) (p:Int) (hp:0<=p):tlbCov e p=true ↔ e.page<=p/\p < e.page+e.size:=by
 unfold tlbCov
 have hm:=he.m
 rcases he.s with h | h <;> rw [h] at hm ⊢ <;> simp only [decide_eq_true_eq] <;> omega
theorem meets_of_cov {a b:TlbE} (ha:TRng a) (hb:TRng b) (k:Int) (hk0:0<=k) (hk:k < a.size) (h:tlbCov b (a.page+k)=true):meets b.page b.size a.page a.size=true:=by
 have h1:=(cov_iff hb _ (by have:=ha.p0; omega)).1 h
 have:=ha.s
 have:=hb.s
 unfold meets
 simp only [Bool.and_eq_true,decide_eq_true_eq]
 omega
theorem not_meets {a b:TlbE} (ha:TRng a) (hb:TRng b) (h:∀ k:Nat,(k:Int) < a.size->tlbCov b (a.page+k)=false):meets b.page b.size a.page a.size=false:=by
 cases hm:meets b.page b.size a.page a.size
 ·rfl
 ·exfalso
  unfold meets at hm
  simp only [Bool.and_eq_true,decide_eq_true_eq] at hm
  have hs:=hb.s
  have hs':=ha.s
  have a0:=ha.p0
  by_cases hlt:a.page < b.page
  ·have h1:=h (b.page - a.page).toNat (by omega)
   have h2:=(cov_iff hb (a.page+((b.page - a.page).toNat:Int)) (by omega)).2 (by omega)
   rw [h1] at h2
   cases h2
  ·have h1:=h 0 (by omega)
   have h2:=(cov_iff hb (a.page+((0:Nat):Int)) (by simpa using a0)).2 (by simp; omega)
   rw [h1] at h2
   cases h2
end Go.Proofs.Ytnmhkgmmpkjjeaa
namespace Go.Proofs.Ytnmhkgmmpkjjeaa
open Go.ChangeShapes Go.WideShapes Go.ChangeAt Go.RowKit
set_option linter.unusedVariables false
structure SeenR where
 page:Int
 need:Int
 kind:Int
 out:Int
def seenV (x:SeenR):Value:=.agg #[.int .i64 x.page,.int .i64 x.need,.int .i64 x.kind,.int .i64 x.out]
def needOk (n:Int):Bool:=decide (n=1) || decide (n=2) || decide (n=4)
def lookS (page need out perm:Int):SeenR:=if perm / need % 2=1 then ⟨page,need,1,out⟩ else ⟨page,need,2,0⟩
def seenH (page need:Int) (h:HitR):SeenR:=if h.kind=1 then lookS page need h.out h.perm else ⟨page,need,h.kind,0⟩
def firstC (M:Mach) (page:Int):Nat:=firstR (fun i=>tlbCov (eAt eTlb M.tlb i) page) M.tlb.length 0
def clashC (M:Mach) (page:Int):Bool:=anyR (fun j=>tlbCov (eAt eTlb M.tlb j) page && !sameB (eAt eTlb M.tlb (firstC M page)) (eAt eTlb M.tlb j)) M.tlb.length
def tlbHit (e:TlbE) (page:Int):HitR:=⟨1,e.out+page - e.page,e.perm,e.size⟩
def lookUpM (M:Mach) (page:Int):HitR:=if clashC M page then ⟨4,0,0,0⟩ else tlbHit (eAt eTlb M.tlb (firstC M page)) page
def useT (M:Mach) (page choice:Int):Bool:=bitI choice 7 && decide (firstC M page < M.tlb.length)
def accN (M:Mach) (page choice:Int):Mach:=if useT M page choice then M else (walkM M page choice).1
def accS (M:Mach) (page need choice:Int):SeenR:=seenH page need (if useT M page choice then lookUpM M page else (walkM M page choice).2)
def accOk (M:Mach) (page need choice:Int):Bool:=validB M && pageOk page && choiceOk choice && needOk need
def accM (M:Mach) (page need choice:Int):Mach × SeenR:=if accOk M page need choice then (accN M page choice,accS M page need choice) else (zM,⟨0,0,0,0⟩)
theorem accM_small {M:Mach} (hk:MOk M) (hs:M.Small) (page need choice:Int):(accM M page need choice).1.Small:=by
 unfold accM
 split
 ·rename_i h
  have hv:validB M=true:=by
   unfold accOk at h
   simp only [Bool.and_eq_true] at h
   exact h.1.1.1
  show (accN M page choice).Small
  unfold accN
  split
  ·exact hs
  ·exact (walkM_ok (WOk.of hk hv) page choice).small
 ·exact zM_small
theorem dPerm_rng (l x:Int):0<=dPerm l x/\dPerm l x<=7:=by unfold dPerm; split <;> omega
theorem endM_perm (page choice:Int) (M:Mach) (level x:Int) (doom:Bool):0<=(endM page choice M level x doom).2.perm/\(endM page choice M level x doom).2.perm<=7:=by
 unfold endM
 have:=dPerm_rng level x
 split
 ·exact ⟨by simp,by simp⟩
 ·split
  ·exact this
  ·exact ⟨by simp,by simp⟩
theorem goM_perm (page choice:Int):∀ d M level frame doom,0<=(goM page choice d M level frame doom).2.perm/\(goM page choice d M level frame doom).2.perm<=7
 | 0,M,level,frame,doom=>endM_perm page choice M level _ doom
 | d+1,M,level,frame,doom=>by
  unfold goM
  split
  ·exact goM_perm page choice d _ _ _ _
  ·exact endM_perm page choice M level _ doom
theorem walkM_perm (M:Mach) (page choice:Int):0<=(walkM M page choice).2.perm/\(walkM M page choice).2.perm<=7:=goM_perm page choice _ _ _ _ _
theorem firstC_at {M:Mach} {page:Int} (t:Nat) (ht:t < M.tlb.length) (hf:∀ j,j < t->tlbCov (eAt eTlb M.tlb j) page=false) (h:tlbCov (eAt eTlb M.tlb t) page=true):firstC M page=t:=firstR_at _ _ _ ht hf h
theorem firstC_none {M:Mach} {page:Int} (hf:∀ j,j < M.tlb.length->tlbCov (eAt eTlb M.tlb j) page=false):firstC M page=M.tlb.length:=firstR_none _ _ hf
theorem clash_yes {M:Mach} {page:Int} (t:Nat) (ht:t < M.tlb.length) (h:tlbCov (eAt eTlb M.tlb t) page=true) (hd:sameB (eAt eTlb M.tlb (firstC M page)) (eAt eTlb M.tlb t)=false):clashC M page=true:=anyR_true _ t _ ht (by simp [h,hd])
theorem clash_no {M:Mach} {page:Int} (h:∀ t,t < M.tlb.length->tlbCov (eAt eTlb M.tlb t) page=true->sameB (eAt eTlb M.tlb (firstC M page)) (eAt eTlb M.tlb t)=true):clashC M page=false :=
 anyR_none _ _ (fun t ht=>by
  cases hc:tlbCov (eAt eTlb M.tlb t) page
  ·simp
  ·simp [h t ht hc])
theorem sameB_self (e:TlbE):sameB e e=true:=by simp [sameB]
end Go.Proofs.Ytnmhkgmmpkjjeaa
namespace Go.Proofs.Ytnmhkgmmpkjjeaa
open Go.ChangeShapes Go.WideShapes Go.ChangeAt Go.RowKit
set_option linter.unusedVariables false
theorem eAt_in {α:Type} (E:Elt α) {xs:List α} {i:Nat} (hi:i < xs.length):eAt E xs i ∈ xs:=by
 unfold eAt
 rw [List.getD_eq_getElem?_getD,List.getElem?_eq_getElem hi]
 exact List.getElem_mem hi
theorem in_eAt {α:Type} (E:Elt α) {xs:List α} {x:α} (h:x ∈ xs):∃ i,i < xs.length/\eAt E xs i=x:=by
 obtain ⟨i,hi,e⟩:=List.getElem_of_mem h
 refine ⟨i,hi,?_⟩
 unfold eAt
 rw [List.getD_eq_getElem?_getD,List.getElem?_eq_getElem hi]
 exact e
structure VM (M:Mach):Prop where
 n0:nfr M.mem.length ≠ 0
 word:∀ x ∈ M.mem,0<=x/\x < 2 ^ 64
 p:M.pend.length<=10000
 t:M.tlb.length<=256
 c:M.wc.length<=256
 pend:∀ e ∈ M.pend,(0<=e.addr/\e.addr < M.mem.length)/\0<=e.word/\e.word < 2 ^ 64
 tlb:∀ e ∈ M.tlb,tlbOkB e=true
 wc:∀ e ∈ M.wc,wcOkB (nfr M.mem.length) e=true
theorem VM.of {M:Mach} (hk:MOk M) (hv:validB M=true):VM M:=by
 have ho:=WOk.of hk hv
 refine ⟨ho.n0,fun x hx=>?_,ho.p,ho.t,ho.c,fun e he=>?_,fun e he=>?_,fun e he=>?_⟩
 ·obtain ⟨i,hi,rfl⟩:=List.getElem_of_mem hx
  have:=ho.word i
  rw [List.getD_eq_getElem?_getD,List.getElem?_eq_getElem hi] at this
  exact this
 ·obtain ⟨i,hi,rfl⟩:=in_eAt eWrite he
  exact ⟨valid_pend hv i hi,ho.pw i⟩
 ·obtain ⟨i,hi,rfl⟩:=in_eAt eTlb he
  exact valid_tlb hv i hi
 ·obtain ⟨i,hi,rfl⟩:=in_eAt eWc he
  exact valid_wc hv i hi
theorem VM.valid {M:Mach} (h:VM M):validB M=true:=by
 have h0:=h.n0
 have h1:=h.p
 have h2:=h.t
 have h3:=h.c
 unfold validB
 simp only [Bool.and_eq_true]
 refine ⟨⟨⟨by simp [validL,h0,h1,h2,h3],?_⟩,?_⟩,?_⟩
 ·unfold pendAll
  rw [List.all_eq_true]
  intro i hi
  have:=h.pend _ (eAt_in eWrite (List.mem_range.1 hi))
  simp [pendOkB]
  omega
 ·unfold tlbAll
  rw [List.all_eq_true]
  intro i hi
  exact h.tlb _ (eAt_in eTlb (List.mem_range.1 hi))
 ·unfold wcAll
  rw [List.all_eq_true]
  intro i hi
  exact h.wc _ (eAt_in eWc (List.mem_range.1 hi))
theorem wf_i64 {x:Int} (h0:-9223372036854775808<=x) (h1:x<=9223372036854775807):(Lit.int .i64 x).wf=true:=by
 simp only [Lit.wf,Bool.and_eq_true,decide_eq_true_eq]
 exact ⟨h0,h1⟩
theorem wf_u64 {x:Int} (h0:0<=x) (h1:x < 2 ^ 64):(Lit.int .u64 x).wf=true:=by
 have h2:x<=18446744073709551615:=by omega
 simp only [Lit.wf,Bool.and_eq_true,decide_eq_true_eq]
 exact ⟨h0,h2⟩
theorem VM.mok {M:Mach} (h:VM M):MOk M:=by
 have l1:=nfr_mul M.mem.length h.n0
 have l2:=nfr_le M.mem.length
 have h1:=h.p
 have h2:=h.t
 have h3:=h.c
 refine ⟨by omega,by omega,by omega,by omega,fun i=>?_,fun i hi=>?_,fun i hi=>?_,fun i hi=>?_⟩
 ·rw [List.getD_eq_getElem?_getD]
  by_cases hi:i < M.mem.length
  ·rw [List.getElem?_eq_getElem hi]
   exact h.word _ (List.getElem_mem hi)
  ·rw [List.getElem?_eq_none (by omega)]
   exact ⟨by decide,by decide⟩
 ·have:=h.pend _ (eAt_in eWrite hi)
  exact ⟨wf_i64 (by omega) (by omega),wf_u64 this.2.1 this.2.2⟩
 ·have:=h.tlb _ (eAt_in eTlb hi)
  simp only [tlbOkB,pageOk,Bool.and_eq_true,Bool.or_eq_true,decide_eq_true_eq] at this
  exact ⟨wf_i64 (by omega) (by omega),wf_i64 (by omega) (by omega),wf_i64 (by omega) (by omega),wf_i64 (by omega) (by omega)⟩
 ·have:=h.wc _ (eAt_in eWc hi)
  simp only [wcOkB,pageOk,Bool.and_eq_true,Bool.or_eq_true,decide_eq_true_eq] at this
  exact ⟨wf_i64 (by omega) (by omega),wf_i64 (by omega) (by omega),wf_i64 (by omega) (by omega)⟩
theorem VM.wok {M:Mach} (h:VM M):WOk M:=WOk.of h.mok h.valid
theorem VM.small {M:Mach} (h:VM M):M.Small:=h.wok.small
theorem addWcM_vm {M:Mach} (h:VM M) (e:WcE) (he:wcOkB (nfr M.mem.length) e=true):VM (addWcM M e):=by
 unfold addWcM
 split
 ·exact h
 ·rename_i hn
  have hl:¬ 256<=M.wc.length:=by
   intro hc; apply hn; simp [hc]
  refine ⟨h.n0,h.word,h.p,h.t,by simp; omega,h.pend,h.tlb,fun x hx=>?_⟩
  rcases List.mem_append.1 hx with hx | hx
  ·exact h.wc x hx
  ·rw [List.mem_singleton.1 hx]; exact he
theorem addTlbM_vm {M:Mach} (h:VM M) (e:TlbE) (he:tlbOkB e=true):VM (addTlbM M e):=by
 unfold addTlbM
 split
 ·exact h
 ·rename_i hn
  have hl:¬ 256<=M.tlb.length:=by
   intro hc; apply hn; simp [hc]
  refine ⟨h.n0,h.word,h.p,by simp; omega,h.c,h.pend,fun x hx=>?_,h.wc⟩
  rcases List.mem_append.1 hx with hx | hx
  ·exact h.tlb x hx
  ·rw [List.mem_singleton.1 hx]; exact he
theorem dKind_maps (l x:Int) (h:dKind l x=2\/dKind l x=3):1<=dPerm l x/\dPerm l x<=7/\dOut l x % sizR l x=0:=by
 have h1:=dPerm_rng l x
 unfold sizR
 unfold dOut dPerm
 rw [if_neg (by omega),if_neg (by omega)]
 unfold dKind at h
 repeat' split at h
 all_goals first | omega | skip
 all_goals (rename_i hh; unfold dKind; simp_all; try omega)
theorem endM_vm {M:Mach} (h:VM M) (page choice level x:Int) (doom:Bool) (hp0:0<=page) (hp1:page < 4096):VM (endM page choice M level x doom).1:=by
 unfold endM
 split
 ·exact h
 ·split
  ·rename_i hk
   have h1:=dKind_maps level x hk
   have h2:=dOut_lo level x
   have h3:sizR level x=1\/sizR level x=16:=by unfold sizR; split <;> simp
   show VM (if bitI choice 6=true then _ else _)
   split
   ·refine addTlbM_vm h _ ?_
    generalize sizR level x=z at *
    simp only [tlbOkB,pageOk,Bool.and_eq_true,Bool.or_eq_true,decide_eq_true_eq]
    rcases h3 with rfl | rfl <;> omega
   ·exact h
  ·exact h
theorem stepM_vm {M:Mach} (h:VM M) (page choice level x:Int) (doom:Bool) (hp0:0<=page) (hp1:page < 4096) (hl0:1<=level) (hl1:level<=2) (hx:leadsM M level x=true):VM (stepM page choice M level x doom):=by
 unfold stepM
 split
 ·refine addWcM_vm h _ ?_
  have h2:=dOut_lo level x
  unfold leadsM at hx
  simp only [Bool.and_eq_true,decide_eq_true_eq] at hx
  simp only [wcOkB,pageOk,Bool.and_eq_true,Bool.or_eq_true,decide_eq_true_eq]
  have h3:level+1 - 1=level:=by omega
  rw [h3]
  unfold cov
  rcases (by omega:level=1\/level=2) with rfl | rfl
  ·simp; omega
  ·simp; omega
 ·exact h
theorem goM_vm (page choice:Int) (hp0:0<=page) (hp1:page < 4096):∀ (d:Nat) {M:Mach},VM M->∀ (level frame:Int) (doom:Bool),1<=level->level+d<=3->VM (goM page choice d M level frame doom).1
 | 0,M,h,level,frame,doom,_,_=>endM_vm h _ _ _ _ _ hp0 hp1
 | d+1,M,h,level,frame,doom,h0,h1=>by
  unfold goM
  split
  ·rename_i hx
   exact goM_vm page choice hp0 hp1 d (stepM_vm h _ _ _ _ _ hp0 hp1 h0 (by omega) hx) _ _ _ (by omega) (by omega)
  ·exact endM_vm h _ _ _ _ _ hp0 hp1
theorem walkM_vm {M:Mach} (h:VM M) (page choice:Int) (hp0:0<=page) (hp1:page < 4096):VM (walkM M page choice).1:=by
 have hs:=startM_ok h.valid page choice
 exact goM_vm page choice hp0 hp1 _ h _ _ _ hs.1 (by omega)
theorem accN_vm {M:Mach} (h:VM M) (page choice:Int) (hp0:0<=page) (hp1:page < 4096):VM (accN M page choice):=by
 unfold accN
 split
 ·exact h
 ·exact walkM_vm h page choice hp0 hp1
end Go.Proofs.Ytnmhkgmmpkjjeaa
namespace Go.Proofs.Ytnmhkgmmpkjjeaa
open Go.ChangeShapes Go.WideShapes Go.ChangeAt Go.RowKit
set_option linter.unusedVariables false
def oBlk (a:Option Addr):Option Nat:=(Value.slice a 0 0).ownBlock
theorem own_blk (a:Option Addr) (n c:Nat):(Value.slice a n c).ownBlock=oBlk a:=by
 unfold oBlk
 rcases a with _ | ⟨b,o,sp⟩ <;> rfl
end Go.Proofs.Ytnmhkgmmpkjjeaa
