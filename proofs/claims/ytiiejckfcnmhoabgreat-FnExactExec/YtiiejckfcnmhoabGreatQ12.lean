import Derived.Test.YtiiejckfcnmhoabGreatQ11
namespace Go.Proofs.YtiiejckfcnmhoabGreat
open Go.ChangeShapes Go.WideShapes Go.ChangeAt Go.RowKit
set_option linter.unusedVariables false
theorem specValid_any (s:SV) (M:Mach) (b:Nat) (w:World) (hs:M.Small) (h:MRow w b (s.mv M) M) :
  Calls Tryz.prog 34 #[.agg #[.slice s.a1 M.mem.length s.c1,.slice s.a2 M.pend.length s.c2,.slice s.a3 M.tlb.length s.c3,.slice s.a4 M.wc.length s.c4]] w fun e w'=>e=.returned (.bool (validB M))/\Below w.heap.size w w':=by
 cases hv:validL M
 ·have:validB M=false:=by unfold validB; rw [hv]; rfl
  rw [this]
  exact valid_no s M b w hs h hv
 ·exact valid_yes s M b w hs h hv
def readTo (M:Mach) (a:Int):Nat->Int
 | 0=>M.mem.getD a.toNat 0
 | k+1=>if (eAt eWrite M.pend k).addr=a then (eAt eWrite M.pend k).word else readTo M a k
def readM (M:Mach) (a:Int) (late:Bool):Int:=if late then readTo M a M.pend.length else M.mem.getD a.toNat 0
theorem mem_cell {W:World} {b:Nat} {s:SV} {M:Mach} (h:MRow W b (s.mv M) M) (A:Nat) (hA:A < M.mem.length):∃ g,s.a1=some ⟨g,0,none⟩/\g < W.heap.size/\W.cell? ⟨g,A,none⟩=some (.int .u64 (M.mem.getD A 0)):=by
 obtain ⟨ga,ca,hae,haf⟩:=eWord_form h.w
 obtain ⟨g,N,f,hag,_,hr,hN,hf⟩:=haf (by omega)
 have h2:Value.slice s.a1 M.mem.length s.c1=.slice ga M.mem.length ca:=hae
 simp only [Value.slice.injEq] at h2
 have c:=hr.cell (i:=A) (by omega)
 rw [hf A hA] at c
 exact ⟨g,h2.1.trans hag,hr.lt,c⟩
set_option maxHeartbeats 2000000 in
theorem read_any (s:SV) (M:Mach) (b:Nat) (A:Nat) (late:Bool) (w:World) (hs:M.Small) (hA:A < M.mem.length) (h:MRow w b (s.mv M) M) :
  Calls Tryz.prog 122 #[.agg #[.slice s.a1 M.mem.length s.c1,.slice s.a2 M.pend.length s.c2,.slice s.a3 M.tlb.length s.c3,.slice s.a4 M.wc.length s.c4],.int .i64 A,.bool late] w fun e w'=>e=.returned (.int .u64 (readM M A late))/\Below w.heap.size w w':=by
 have y1:=hs.w
 have y2:=hs.p
 obtain ⟨gm,hgm,hgl,hcm⟩:=mem_cell h A hA
 have htn:(A:Int).toNat=A:=by omega
 have A1:(0:Int)<=(A:Int):=by omega
 have A2:(A:Int) < (M.mem.length:Int):=by omega
 cases late
 ·have hr:readM M A false=M.mem.getD A 0:=by simp [readM]
  rw [hr,hgm]
  generalize M.mem.getD A 0=X at *
  clear hr hgm h
  go_enter Tryz.func122,Tryz.ntmps122
  go_wp2_with fail
  go_ret
  exact ⟨rfl,bal⟩
 ·have hr:readM M A true=readTo M A M.pend.length:=rfl
  rw [hr]
  have hr0:readTo M A 0=M.mem.getD A 0:=by simp [readTo]
  obtain ⟨wb,hwb⟩:∃ wb,wb=w.alloc (.cells #[.slice s.a1 M.mem.length s.c1,.slice s.a2 M.pend.length s.c2,.slice s.a3 M.tlb.length s.c3,.slice s.a4 M.wc.length s.c4] 36):=⟨_,rfl⟩
  have hbb:Below w.heap.size w wb:=by rw [hwb]; exact bal
  have q0:wb.cell? ⟨w.heap.size,0,none⟩=some (.slice s.a1 M.mem.length s.c1):=by rw [hwb]; simp [go_sem]
  have q1:wb.cell? ⟨w.heap.size,1,none⟩=some (.slice s.a2 M.pend.length s.c2):=by rw [hwb]; simp [go_sem]
  have cm:=(hbb.cell (p:=⟨gm,A,none⟩) (by simpa using hgl)).trans hcm
  have HP:Hid (ERow eWrite wb b (.slice s.a2 M.pend.length s.c2) M.pend):=h.p.below hbb
  have HBB:Hid (Below _ w wb):=hbb
  have HWB:Hid (wb=_):=hwb
  have HR0:Hid _:=hr0
  have HGM:Hid (s.a1=_):=hgm
  have HC:Hid (wb.cell? ⟨w.heap.size,0,none⟩=some (.slice s.a1 M.mem.length s.c1)/\wb.cell? ⟨w.heap.size,1,none⟩=some (.slice s.a2 M.pend.length s.c2)/\wb.cell? ⟨gm,A,none⟩=some (.int .u64 (M.mem.getD A 0))):=⟨q0,q1,cm⟩
  clear h hbb hwb hr0 hgm q0 q1 cm hcm hr
  go_enter Tryz.func122,Tryz.ntmps122
  go_wp2_with fail
  go_loopw [7] (fun iv wr=>∃ k:Nat,k<=M.pend.length/\iv=.int .i64 ((k:Int) - 1)/\readTo M A M.pend.length=readTo M A k/\wr=wb) (fun iv _=>(intOf iv+1).toNat)
  case atStart=>exact ⟨M.pend.length,Nat.le_refl _,rfl,rfl,HWB.out.symm⟩
  case round =>
   obtain ⟨k,hk,rfl,hrd,rfl⟩:=hrel
   obtain ⟨q0,q1,cm⟩:=HC.out
   cases k with
   | zero =>
    have HRD:Hid _:=hrd.trans HR0.out
    rw [HGM.out] at q0
    clear hrd
    generalize M.mem.getD A 0=X at *
    go_wp2_with fail
    go_ret
    exact ⟨by rw [HRD.out]; rfl,HBB.out⟩
   | succ i =>
    obtain ⟨ga,ca,hae,haf⟩:=HP.out.form
    obtain ⟨g,N,f,hag,_,hr,hN,hf⟩:=haf (by omega)
    have hga:s.a2=some ⟨g,0,none⟩:=by
     simp only [Value.slice.injEq] at hae
     exact hae.1.trans hag
    have hN':M.pend.length * 2<=N:=hN
    rw [hga] at q1
    have k0:=hr.cell (i:=i * 2) (by omega)
    rw [show f (i * 2)=.int .i64 (eAt eWrite M.pend i).addr from hf i (by omega) 0 (by decide)] at k0
    have k1:=hr.cell (i:=i * 2+1) (by omega)
    rw [show f (i * 2+1)=.int .u64 (eAt eWrite M.pend i).word from hf i (by omega) 1 (by decide)] at k1
    have hst:readTo M A (i+1)=if (eAt eWrite M.pend i).addr=(A:Int) then (eAt eWrite M.pend i).word else readTo M A i:=rfl
    have L1:(0:Int)<=((i+1:Nat):Int) - 1:=by omega
    have L2:((i+1:Nat):Int) - 1 < (M.pend.length:Int):=by omega
    have L3:(((i+1:Nat):Int) - 1).toNat=i:=by omega
    have L4:((i+1:Nat):Int) - 1=(i:Int):=by omega
    rw [L4]
    rw [L4] at L1 L2
    have HRD:Hid _:=hrd
    have HST:Hid _:=hst
    clear hrd hst hr hf hae haf hga hN L3 L4
    generalize (eAt eWrite M.pend i).addr=B at *
    generalize (eAt eWrite M.pend i).word=C at *
    by_cases hB:B=(A:Int)
    ·have hB':(B == (A:Int))=true:=by simpa using hB
     have hv:readTo M A M.pend.length=C:=by rw [HRD.out,HST.out,if_pos hB]
     have HV:Hid _:=hv
     clear hB hv
     go_wp2_with fail
     go_ret
     exact ⟨by rw [HV.out]; rfl,HBB.out⟩
    ·have hB':(B == (A:Int))=false:=by simpa using hB
     have hv:readTo M A M.pend.length=readTo M A i:=by rw [HRD.out,HST.out,if_neg hB]
     have HV:Hid _:=hv
     clear hB hv
     go_wp2_with fail
     go_roundw
     case rel=>exact ⟨i,by omega,rfl,HV.out,by first | trivial | rfl⟩
     case measure=>simp [intOf] <;> omega
structure HitR where
 kind:Int
 out:Int
 perm:Int
 size:Int
def hitV (h:HitR):Value:=.agg #[.int .i64 h.kind,.int .i64 h.out,.int .i64 h.perm,.int .i64 h.size]
def anyR (f:Nat->Bool) (n:Nat):Bool:=(List.range n).any f
theorem anyR_zero (f:Nat->Bool):anyR f 0=false:=rfl
theorem anyR_succ (f:Nat->Bool) (n:Nat):anyR f (n+1)=(anyR f n || f n):=by simp [anyR,List.range_succ,List.any_append]
theorem anyR_true (f:Nat->Bool) (i n:Nat) (hi:i < n) (h:f i=true):anyR f n=true:=by
 unfold anyR
 rw [List.any_eq_true]
 exact ⟨i,by simpa using hi,h⟩
def firstR (f:Nat->Bool):Nat->Nat->Nat
 | 0,i=>i
 | n+1,i=>if f i then i else firstR f n (i+1)
def wcEq (a b:WcE):Bool:=decide (a.level=b.level) && decide (a.page=b.page) && decide (a.table=b.table) && (a.doom == b.doom)
def tlbEq (a b:TlbE):Bool:=sameB a b && (a.doom == b.doom)
def hasWc (M:Mach) (e:WcE):Bool:=anyR (fun i=>wcEq (eAt eWc M.wc i) e) M.wc.length
def hasTlb (M:Mach) (e:TlbE):Bool:=anyR (fun i=>tlbEq (eAt eTlb M.tlb i) e) M.tlb.length
def addWcM (M:Mach) (e:WcE):Mach:=if hasWc M e || decide (256<=M.wc.length) then M else ⟨M.mem,M.pend,M.tlb,M.wc ++ [e]⟩
def addTlbM (M:Mach) (e:TlbE):Mach:=if hasTlb M e || decide (256<=M.tlb.length) then M else ⟨M.mem,M.pend,M.tlb ++ [e],M.wc⟩
def wordM (M:Mach) (page choice level frame:Int):Int:=readM M (frame * 16+idx page level) (bitI choice level.toNat)
def sizR (level x:Int):Int:=if dKind level x=2 then 16 else 1
def endM (page choice:Int) (M:Mach) (level x:Int) (doom:Bool):Mach × HitR :=
 if dKind level x=0 then (M,⟨0,0,0,0⟩)
 else if dKind level x=2\/dKind level x=3 then
  (if bitI choice 6 then addTlbM M ⟨page - page % sizR level x,sizR level x,dOut level x,dPerm level x,doom⟩ else M,⟨1,dOut level x+page % sizR level x,dPerm level x,sizR level x⟩)
 else (M,⟨3,0,0,0⟩)
def leadsM (M:Mach) (level x:Int):Bool:=decide (dKind level x=1) && decide (dOut level x < nfr M.mem.length)
def stepM (page choice:Int) (M:Mach) (level x:Int) (doom:Bool):Mach :=
 if bitI choice (level+3).toNat then addWcM M ⟨level+1,page - page % cov level,dOut level x,doom⟩ else M
def goM (page choice:Int):Nat->Mach->Int->Int->Bool->Mach × HitR
 | 0,M,level,frame,doom=>endM page choice M level (wordM M page choice level frame) doom
 | d+1,M,level,frame,doom =>
  if leadsM M level (wordM M page choice level frame) then
   goM page choice d (stepM page choice M level (wordM M page choice level frame) doom) (level+1) (dOut level (wordM M page choice level frame)) doom
  else endM page choice M level (wordM M page choice level frame) doom
def serves (M:Mach) (page level:Int) (i:Nat):Bool:=decide ((eAt eWc M.wc i).level=level) && wcCov (eAt eWc M.wc i) page
def findW (M:Mach) (page level:Int):Nat:=firstR (serves M page level) M.wc.length 0
def startM (M:Mach) (page choice:Int):WcE :=
 if bitI choice 0 then
  if findW M page 3 < M.wc.length then eAt eWc M.wc (findW M page 3)
  else if findW M page 2 < M.wc.length then eAt eWc M.wc (findW M page 2)
  else ⟨1,0,0,false⟩
 else ⟨1,0,0,false⟩
def walkM (M:Mach) (page choice:Int):Mach × HitR :=
 goM page choice (3 - (startM M page choice).level).toNat M (startM M page choice).level (startM M page choice).table (startM M page choice).doom
theorem firstR_hit (f:Nat->Bool):∀ n i,firstR f n i < i+n->f (firstR f n i)=true
 | 0,i,h=>by simp [firstR] at h
 | n+1,i,h=>by
  unfold firstR at h ⊢
  split
  ·assumption
  ·rename_i hf
   rw [if_neg hf] at h
   exact firstR_hit f n (i+1) (by omega)
theorem firstR_skip (f:Nat->Bool):∀ n i t,t<=n->(∀ j,j < t->f (i+j)=false)->firstR f n i=firstR f (n - t) (i+t)
 | n,i,0,_,_=>by simp
 | 0,i,t+1,h,_=>by omega
 | n+1,i,t+1,h,hf=>by
  have h0:=hf 0 (by omega)
  rw [Nat.add_zero] at h0
  conv=>lhs; unfold firstR
  rw [h0]
  simp only [Bool.false_eq_true,if_false]
  rw [firstR_skip f n (i+1) t (by omega) (fun j hj=>by have:=hf (j+1) (by omega); rw [show i+1+j=i+(j+1) by omega]; exact this)]
  rw [show n+1 - (t+1)=n - t by omega,show i+1+t=i+(t+1) by omega]
theorem firstR_at (f:Nat->Bool) (n t:Nat) (ht:t < n) (hf:∀ j,j < t->f j=false) (h:f t=true):firstR f n 0=t:=by
 rw [firstR_skip f n 0 t (by omega) (fun j hj=>by rw [Nat.zero_add]; exact hf j hj),Nat.zero_add]
 obtain ⟨m,hm⟩:∃ m,n - t=m+1:=⟨n - t - 1,by omega⟩
 rw [hm]
 unfold firstR
 rw [if_pos h]
theorem firstR_none (f:Nat->Bool) (n:Nat) (hf:∀ j,j < n->f j=false):firstR f n 0=n:=by
 rw [firstR_skip f n 0 n (Nat.le_refl _) (fun j hj=>by rw [Nat.zero_add]; exact hf j hj)]
 simp [firstR]
structure WOk (M:Mach):Prop where
 n0:nfr M.mem.length ≠ 0
 word:∀ i,0<=M.mem.getD i 0/\M.mem.getD i 0 < 2 ^ 64
 pw:∀ i,0<=(eAt eWrite M.pend i).word/\(eAt eWrite M.pend i).word < 2 ^ 64
 p:M.pend.length<=10000
 t:M.tlb.length<=256
 c:M.wc.length<=256
theorem WOk.small {M:Mach} (h:WOk M):M.Small:=by
 have:=nfr_le M.mem.length
 have:=nfr_mul M.mem.length h.n0
 exact ⟨by omega,by have:=h.p; omega,by have:=h.t; omega,by have:=h.c; omega⟩
theorem readTo_rng {M:Mach} (h:WOk M) (a:Int):∀ k,0<=readTo M a k/\readTo M a k < 2 ^ 64
 | 0=>h.word _
 | k+1=>by
  unfold readTo
  split
  ·exact h.pw k
  ·exact readTo_rng h a k
theorem wordM_rng {M:Mach} (h:WOk M) (page choice level frame:Int):0<=wordM M page choice level frame/\wordM M page choice level frame < 2 ^ 64:=by
 unfold wordM readM
 split
 ·exact readTo_rng h _ _
 ·exact h.word _
theorem addWcM_ok {M:Mach} (h:WOk M) (e:WcE):WOk (addWcM M e):=by
 unfold addWcM
 split
 ·exact h
 ·rename_i hn
  have hl:¬ 256<=M.wc.length:=by
   intro hc; apply hn; simp [hc]
  exact ⟨h.n0,h.word,h.pw,h.p,h.t,by simp; omega⟩
theorem addTlbM_ok {M:Mach} (h:WOk M) (e:TlbE):WOk (addTlbM M e):=by
 unfold addTlbM
 split
 ·exact h
 ·rename_i hn
  have hl:¬ 256<=M.tlb.length:=by
   intro hc; apply hn; simp [hc]
  exact ⟨h.n0,h.word,h.pw,h.p,by simp; omega,h.c⟩
theorem addWcM_mem (M:Mach) (e:WcE):(addWcM M e).mem=M.mem/\(addWcM M e).pend=M.pend/\(addWcM M e).tlb=M.tlb:=by
 unfold addWcM; split <;> simp
theorem stepM_ok {M:Mach} (h:WOk M) (page choice level x:Int) (doom:Bool):WOk (stepM page choice M level x doom):=by
 unfold stepM
 split
 ·exact addWcM_ok h _
 ·exact h
theorem stepM_mem (page choice:Int) (M:Mach) (level x:Int) (doom:Bool):(stepM page choice M level x doom).mem=M.mem/\(stepM page choice M level x doom).pend=M.pend/\(stepM page choice M level x doom).tlb=M.tlb:=by
 unfold stepM
 split
 ·exact addWcM_mem _ _
 ·simp
theorem endM_ok {M:Mach} (h:WOk M) (page choice level x:Int) (doom:Bool):WOk (endM page choice M level x doom).1:=by
 unfold endM
 split
 ·exact h
 ·split
  ·show WOk (if bitI choice 6=true then _ else _)
   split
   ·exact addTlbM_ok h _
   ·exact h
  ·exact h
theorem goM_ok (page choice:Int):∀ d {M:Mach},WOk M->∀ level frame doom,WOk (goM page choice d M level frame doom).1
 | 0,M,h,level,frame,doom=>endM_ok h _ _ _ _ _
 | d+1,M,h,level,frame,doom=>by
  unfold goM
  split
  ·exact goM_ok page choice d (stepM_ok h _ _ _ _ _) _ _ _
  ·exact endM_ok h _ _ _ _ _
theorem WOk.of {M:Mach} (hk:MOk M) (hv:validB M=true):WOk M:=by
 unfold validB at hv
 simp only [Bool.and_eq_true] at hv
 have hl:=hv.1.1.1
 unfold validL at hl
 simp only [Bool.and_eq_true,Bool.not_eq_true',decide_eq_false_iff_not,decide_eq_true_eq] at hl
 obtain ⟨⟨⟨a,b⟩,c⟩,d⟩:=hl
 refine ⟨a,hk.word,fun i=>?_,b,c,d⟩
 by_cases hi:i < M.pend.length
 ·have:=(hk.pend i hi).2
  have:=bounds_u64 this
  omega
 ·have:eAt eWrite M.pend i=eWrite.dflt:=by
   unfold eAt
   rw [List.getD_eq_getElem?_getD,List.getElem?_eq_none (by omega)]
   rfl
  rw [this]
  exact ⟨by decide,by decide⟩
theorem valid_wc {M:Mach} (hv:validB M=true) (i:Nat) (hi:i < M.wc.length):wcOkB (nfr M.mem.length) (eAt eWc M.wc i)=true:=by
 unfold validB at hv
 simp only [Bool.and_eq_true] at hv
 have:=hv.2
 unfold wcAll at this
 rw [List.all_eq_true] at this
 exact this i (by simpa using hi)
theorem valid_tlb {M:Mach} (hv:validB M=true) (i:Nat) (hi:i < M.tlb.length):tlbOkB (eAt eTlb M.tlb i)=true:=by
 unfold validB at hv
 simp only [Bool.and_eq_true] at hv
 have:=hv.1.2
 unfold tlbAll at this
 rw [List.all_eq_true] at this
 exact this i (by simpa using hi)
theorem valid_pend {M:Mach} (hv:validB M=true) (i:Nat) (hi:i < M.pend.length):0<=(eAt eWrite M.pend i).addr/\(eAt eWrite M.pend i).addr < M.mem.length:=by
 unfold validB at hv
 simp only [Bool.and_eq_true] at hv
 have:=hv.1.1.2
 unfold pendAll at this
 rw [List.all_eq_true] at this
 have:=this i (by simpa using hi)
 simpa [pendOkB] using this
theorem startM_ok {M:Mach} (hv:validB M=true) (page choice:Int):1<=(startM M page choice).level/\(startM M page choice).level<=3/\0<=(startM M page choice).table/\(startM M page choice).table < nfr M.mem.length:=by
 have h1:(1:Int)<=1/\(1:Int)<=3/\(0:Int)<=0/\0 < nfr M.mem.length:=by
  have hv':=hv
  unfold validB at hv'
  simp only [Bool.and_eq_true] at hv'
  have hl:=hv'.1.1.1
  unfold validL at hl
  simp only [Bool.and_eq_true,Bool.not_eq_true',decide_eq_false_iff_not,decide_eq_true_eq] at hl
  have:=nfr_mul _ hl.1.1.1
  omega
 have key:∀ i,i < M.wc.length->1<=(eAt eWc M.wc i).level/\(eAt eWc M.wc i).level<=3/\0<=(eAt eWc M.wc i).table/\(eAt eWc M.wc i).table < nfr M.mem.length:=by
  intro i hi
  have:=valid_wc hv i hi
  simp only [wcOkB,Bool.and_eq_true,Bool.or_eq_true,decide_eq_true_eq] at this
  omega
 unfold startM
 split
 ·split
  ·rename_i h
   exact key _ h
  ·split
   ·rename_i h
    exact key _ h
   ·exact h1
 ·exact h1
def oBlk (a:Option Addr):Option Nat:=(Value.slice a 0 0).ownBlock
theorem own_blk (a:Option Addr) (n c:Nat):(Value.slice a n c).ownBlock=oBlk a:=by
 unfold oBlk
 rcases a with _ | ⟨b,o,sp⟩ <;> rfl
end Go.Proofs.YtiiejckfcnmhoabGreat
