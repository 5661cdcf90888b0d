import Derived.Test.YtiiejckfcnmhoabGreatQ24
import Derived.Test.YtiiejckfcnmhoabGreatQ16
import Derived.Test.YtiiejckfcnmhoabGreatQ25
import Derived.Test.YtiiejckfcnmhoabGreatQ17
namespace Go.Proofs.YtiiejckfcnmhoabGreat
open Go.ChangeShapes Go.WideShapes Go.ChangeAt Go.RowKit
set_option linter.unusedVariables false
theorem eAt_in {α:Type} (E:Elt α) {xs:List α} {i:Nat} (hi:i < xs.length):eAt E xs i ∈ xs:=by
 unfold eAt
 rw [List.getD_eq_getElem?_getD,List.getElem?_eq_getElem hi]
 exact List.getElem_mem hi
theorem in_eAt {α:Type} (E:Elt α) {xs:List α} {x:α} (h:x ∈ xs):∃ i,i < xs.length/\eAt E xs i=x:=by
 obtain ⟨i,hi,e⟩:=List.getElem_of_mem h
 refine ⟨i,hi,?_⟩
 unfold eAt
 rw [List.getD_eq_getElem?_getD,List.getElem?_eq_getElem hi]
 exact e
structure VM (M:Mach):Prop where
 n0:nfr M.mem.length ≠ 0
 word:∀ x ∈ M.mem,0<=x/\x < 2 ^ 64
 p:M.pend.length<=10000
 t:M.tlb.length<=256
 c:M.wc.length<=256
 pend:∀ e ∈ M.pend,(0<=e.addr/\e.addr < M.mem.length)/\0<=e.word/\e.word < 2 ^ 64
 tlb:∀ e ∈ M.tlb,tlbOkB e=true
 wc:∀ e ∈ M.wc,wcOkB (nfr M.mem.length) e=true
theorem VM.of {M:Mach} (hk:MOk M) (hv:validB M=true):VM M:=by
 have ho:=WOk.of hk hv
 refine ⟨ho.n0,fun x hx=>?_,ho.p,ho.t,ho.c,fun e he=>?_,fun e he=>?_,fun e he=>?_⟩
 ·obtain ⟨i,hi,rfl⟩:=List.getElem_of_mem hx
  have:=ho.word i
  rw [List.getD_eq_getElem?_getD,List.getElem?_eq_getElem hi] at this
  exact this
 ·obtain ⟨i,hi,rfl⟩:=in_eAt eWrite he
  exact ⟨valid_pend hv i hi,ho.pw i⟩
 ·obtain ⟨i,hi,rfl⟩:=in_eAt eTlb he
  exact valid_tlb hv i hi
 ·obtain ⟨i,hi,rfl⟩:=in_eAt eWc he
  exact valid_wc hv i hi
theorem VM.valid {M:Mach} (h:VM M):validB M=true:=by
 have h0:=h.n0
 have h1:=h.p
 have h2:=h.t
 have h3:=h.c
 unfold validB
 simp only [Bool.and_eq_true]
 refine ⟨⟨⟨by simp [validL,h0,h1,h2,h3],?_⟩,?_⟩,?_⟩
 ·unfold pendAll
  rw [List.all_eq_true]
  intro i hi
  have:=h.pend _ (eAt_in eWrite (List.mem_range.1 hi))
  simp [pendOkB]
  omega
 ·unfold tlbAll
  rw [List.all_eq_true]
  intro i hi
  exact h.tlb _ (eAt_in eTlb (List.mem_range.1 hi))
 ·unfold wcAll
  rw [List.all_eq_true]
  intro i hi
  exact h.wc _ (eAt_in eWc (List.mem_range.1 hi))
theorem wf_i64 {x:Int} (h0:-9223372036854775808<=x) (h1:x<=9223372036854775807):(Lit.int .i64 x).wf=true:=by
 simp only [Lit.wf,Bool.and_eq_true,decide_eq_true_eq]
 exact ⟨h0,h1⟩
theorem wf_u64 {x:Int} (h0:0<=x) (h1:x < 2 ^ 64):(Lit.int .u64 x).wf=true:=by
 have h2:x<=18446744073709551615:=by omega
 simp only [Lit.wf,Bool.and_eq_true,decide_eq_true_eq]
 exact ⟨h0,h2⟩
theorem VM.mok {M:Mach} (h:VM M):MOk M:=by
 have l1:=nfr_mul M.mem.length h.n0
 have l2:=nfr_le M.mem.length
 have h1:=h.p
 have h2:=h.t
 have h3:=h.c
 refine ⟨by omega,by omega,by omega,by omega,fun i=>?_,fun i hi=>?_,fun i hi=>?_,fun i hi=>?_⟩
 ·rw [List.getD_eq_getElem?_getD]
  by_cases hi:i < M.mem.length
  ·rw [List.getElem?_eq_getElem hi]
   exact h.word _ (List.getElem_mem hi)
  ·rw [List.getElem?_eq_none (by omega)]
   exact ⟨by decide,by decide⟩
 ·have:=h.pend _ (eAt_in eWrite hi)
  exact ⟨wf_i64 (by omega) (by omega),wf_u64 this.2.1 this.2.2⟩
 ·have:=h.tlb _ (eAt_in eTlb hi)
  simp only [tlbOkB,pageOk,Bool.and_eq_true,Bool.or_eq_true,decide_eq_true_eq] at this
  exact ⟨wf_i64 (by omega) (by omega),wf_i64 (by omega) (by omega),wf_i64 (by omega) (by omega),wf_i64 (by omega) (by omega)⟩
 ·have:=h.wc _ (eAt_in eWc hi)
  simp only [wcOkB,pageOk,Bool.and_eq_true,Bool.or_eq_true,decide_eq_true_eq] at this
  exact ⟨wf_i64 (by omega) (by omega),wf_i64 (by omega) (by omega),wf_i64 (by omega) (by omega)⟩
theorem VM.wok {M:Mach} (h:VM M):WOk M:=WOk.of h.mok h.valid
theorem VM.small {M:Mach} (h:VM M):M.Small:=h.wok.small
theorem addWcM_vm {M:Mach} (h:VM M) (e:WcE) (he:wcOkB (nfr M.mem.length) e=true):VM (addWcM M e):=by
 unfold addWcM
 split
 ·exact h
 ·rename_i hn
  have hl:¬ 256<=M.wc.length:=by
   intro hc; apply hn; simp [hc]
  refine ⟨h.n0,h.word,h.p,h.t,by simp; omega,h.pend,h.tlb,fun x hx=>?_⟩
  rcases List.mem_append.1 hx with hx | hx
  ·exact h.wc x hx
  ·rw [List.mem_singleton.1 hx]; exact he
theorem addTlbM_vm {M:Mach} (h:VM M) (e:TlbE) (he:tlbOkB e=true):VM (addTlbM M e):=by
 unfold addTlbM
 split
 ·exact h
 ·rename_i hn
  have hl:¬ 256<=M.tlb.length:=by
   intro hc; apply hn; simp [hc]
  refine ⟨h.n0,h.word,h.p,by simp; omega,h.c,h.pend,fun x hx=>?_,h.wc⟩
  rcases List.mem_append.1 hx with hx | hx
  ·exact h.tlb x hx
  ·rw [List.mem_singleton.1 hx]; exact he
theorem dKind_maps (l x:Int) (h:dKind l x=2\/dKind l x=3):1<=dPerm l x/\dPerm l x<=7/\dOut l x % sizR l x=0:=by
 have h1:=dPerm_rng l x
 unfold sizR
 unfold dOut dPerm
 rw [if_neg (by omega),if_neg (by omega)]
 unfold dKind at h
 repeat' split at h
 all_goals first | omega | skip
 all_goals (rename_i hh; unfold dKind; simp_all; try omega)
theorem endM_vm {M:Mach} (h:VM M) (page choice level x:Int) (doom:Bool) (hp0:0<=page) (hp1:page < 4096):VM (endM page choice M level x doom).1:=by
 unfold endM
 split
 ·exact h
 ·split
  ·rename_i hk
   have h1:=dKind_maps level x hk
   have h2:=dOut_lo level x
   have h3:sizR level x=1\/sizR level x=16:=by unfold sizR; split <;> simp
   show VM (if bitI choice 6=true then _ else _)
   split
   ·refine addTlbM_vm h _ ?_
    generalize sizR level x=z at *
    simp only [tlbOkB,pageOk,Bool.and_eq_true,Bool.or_eq_true,decide_eq_true_eq]
    rcases h3 with rfl | rfl <;> omega
   ·exact h
  ·exact h
theorem stepM_vm {M:Mach} (h:VM M) (page choice level x:Int) (doom:Bool) (hp0:0<=page) (hp1:page < 4096) (hl0:1<=level) (hl1:level<=2) (hx:leadsM M level x=true):VM (stepM page choice M level x doom):=by
 unfold stepM
 split
 ·refine addWcM_vm h _ ?_
  have h2:=dOut_lo level x
  unfold leadsM at hx
  simp only [Bool.and_eq_true,decide_eq_true_eq] at hx
  simp only [wcOkB,pageOk,Bool.and_eq_true,Bool.or_eq_true,decide_eq_true_eq]
  have h3:level+1 - 1=level:=by omega
  rw [h3]
  unfold cov
  rcases (by omega:level=1\/level=2) with rfl | rfl
  ·simp; omega
  ·simp; omega
 ·exact h
theorem goM_vm (page choice:Int) (hp0:0<=page) (hp1:page < 4096):∀ (d:Nat) {M:Mach},VM M->∀ (level frame:Int) (doom:Bool),1<=level->level+d<=3->VM (goM page choice d M level frame doom).1
 | 0,M,h,level,frame,doom,_,_=>endM_vm h _ _ _ _ _ hp0 hp1
 | d+1,M,h,level,frame,doom,h0,h1=>by
  unfold goM
  split
  ·rename_i hx
   exact goM_vm page choice hp0 hp1 d (stepM_vm h _ _ _ _ _ hp0 hp1 h0 (by omega) hx) _ _ _ (by omega) (by omega)
  ·exact endM_vm h _ _ _ _ _ hp0 hp1
theorem walkM_vm {M:Mach} (h:VM M) (page choice:Int) (hp0:0<=page) (hp1:page < 4096):VM (walkM M page choice).1:=by
 have hs:=startM_ok h.valid page choice
 exact goM_vm page choice hp0 hp1 _ h _ _ _ hs.1 (by omega)
theorem accN_vm {M:Mach} (h:VM M) (page choice:Int) (hp0:0<=page) (hp1:page < 4096):VM (accN M page choice):=by
 unfold accN
 split
 ·exact h
 ·exact walkM_vm h page choice hp0 hp1
theorem keepTo_sub {α:Type} (E:Elt α) (c:Bool) (i:Int) (xs:List α):∀ k,k<=xs.length->∀ x ∈ keepTo E c i xs k,x ∈ xs
 | 0,_,x,h=>by simp [keepTo] at h
 | k+1,hk,x,h=>by
  unfold keepTo at h
  split at h
  ·exact keepTo_sub E c i xs k (by omega) x h
  ·rcases List.mem_append.1 h with h | h
   ·exact keepTo_sub E c i xs k (by omega) x h
   ·rw [List.mem_singleton.1 h]; exact eAt_in E (by omega)
theorem keepT_vm {M:Mach} (h:VM M) (c:Bool) (i:Int):VM ⟨M.mem,M.pend,keepTo eTlb c i M.tlb M.tlb.length,M.wc⟩ :=
 ⟨h.n0,h.word,h.p,Nat.le_trans (keepTo_len _ _ _ _ _) h.t,h.c,h.pend,fun e he=>h.tlb e (keepTo_sub _ _ _ _ _ (Nat.le_refl _) e he),h.wc⟩
theorem keepW_vm {M:Mach} (h:VM M) (c:Bool) (i:Int):VM ⟨M.mem,M.pend,M.tlb,keepTo eWc c i M.wc M.wc.length⟩ :=
 ⟨h.n0,h.word,h.p,h.t,Nat.le_trans (keepTo_len _ _ _ _ _) h.c,h.pend,h.tlb,fun e he=>h.wc e (keepTo_sub _ _ _ _ _ (Nat.le_refl _) e he)⟩
theorem late_word {M:Mach} (h:VM M):∀ x ∈ lateL M,0<=x/\x < 2 ^ 64:=by
 have key:∀ (ps:List WriteE) (zs:List Int),(∀ e ∈ ps,0<=e.word/\e.word < 2 ^ 64)->(∀ x ∈ zs,0<=x/\x < 2 ^ 64)->∀ x ∈ ps.foldl (fun z e=>z.set e.addr.toNat e.word) zs,0<=x/\x < 2 ^ 64:=by
  intro ps
  induction ps with
  | nil=>intro zs _ hz; exact hz
  | cons e r ih =>
   intro zs he hz
   refine ih _ (fun e' h'=>he e' (List.mem_cons_of_mem _ h')) (fun x hx=>?_)
   rcases List.mem_or_eq_of_mem_set hx with hx | rfl
   ·exact hz x hx
   ·exact he e List.mem_cons_self
 exact key M.pend M.mem (fun e he=>(h.pend e he).2) h.word
theorem opM_vm {M:Mach} (h:VM M) (o:OpE) (ho:OpOk o):VM (opM M o).1:=by
 have h1:=h.p
 have h2:=lateL_length M
 unfold opM
 split
 ·exact h
 ·rename_i hb
  split
  ·rename_i hk
   dsimp only
   split
   ·unfold opB at hb
    rw [if_pos hk] at hb
    simp only [Bool.not_eq_false,decide_eq_true_eq] at hb
    refine ⟨h.n0,h.word,by simp; omega,h.t,h.c,fun e he=>?_,h.tlb,h.wc⟩
    rcases List.mem_append.1 he with he | he
    ·exact h.pend e he
    ·rw [List.mem_singleton.1 he]; exact ⟨⟨hb.1,hb.2.1⟩,ho.w⟩
   ·exact h
  ·split
   ·refine ⟨by dsimp only; rw [h2]; exact h.n0,late_word h,by simp,Nat.le_trans (List.length_filter_le _ _) h.t,Nat.le_trans (List.length_filter_le _ _) h.c,fun e he=>by simp at he,fun e he=>h.tlb e (List.mem_filter.1 he).1,fun e he=>?_⟩
    dsimp only
    rw [h2]
    exact h.wc e (List.mem_filter.1 he).1
   ·split
    ·refine ⟨h.n0,h.word,h.p,by simpa using h.t,by simpa using h.c,h.pend,fun e he=>?_,fun e he=>?_⟩
     ·obtain ⟨x,hx,rfl⟩:=List.mem_map.1 he
      exact h.tlb x hx
     ·obtain ⟨x,hx,rfl⟩:=List.mem_map.1 he
      exact h.wc x hx
    ·exact h
theorem hidOf {p:Prop} (h:p):Hid p:=h
def evOk (e:EventE):Bool:=pageOk e.page && choiceOk e.choice && (if e.kind=4 then needOk e.need else decide (e.need=0) && decide (0<=e.kind) && decide (e.kind<=3))
structure XS where
 M:Mach
 at':Nat
 code:Int
 seen:List SeenR
def opAt (ops:List OpE) (i:Nat):OpE:=eAt eOp ops i
def nextX (ops:List OpE) (x:XS):XS :=
 if x.at' < ops.length then
  (if (opM x.M (opAt ops x.at')).2=0 then ⟨(opM x.M (opAt ops x.at')).1,x.at'+1,0,x.seen⟩ else ⟨x.M,x.at',(opM x.M (opAt ops x.at')).2,x.seen⟩)
 else x
def happenX (ops:List OpE) (x:XS) (e:EventE):XS :=
 if e.kind=0 then nextX ops x
 else if e.kind=1 then ⟨(walkM x.M e.page e.choice).1,x.at',x.code,x.seen⟩
 else if e.kind=2 then ⟨⟨x.M.mem,x.M.pend,keepTo eTlb true e.choice x.M.tlb x.M.tlb.length,x.M.wc⟩,x.at',x.code,x.seen⟩
 else if e.kind=3 then ⟨⟨x.M.mem,x.M.pend,x.M.tlb,keepTo eWc true e.choice x.M.wc x.M.wc.length⟩,x.at',x.code,x.seen⟩
 else ⟨accN x.M e.page e.choice,x.at',x.code,x.seen ++ [accS x.M e.page e.need e.choice]⟩
def playX (ops:List OpE) (evs:List EventE):Nat->XS->XS
 | 0,x=>x
 | k+1,x=>let y:=playX ops evs k x; if y.code=0 then happenX ops y (eAt eEvent evs k) else y
def restX (ops:List OpE):Nat->XS->XS
 | 0,x=>x
 | k+1,x=>let y:=restX ops k x; if y.code=0 then nextX ops y else y
theorem restX_succ (ops:List OpE) (k:Nat) (x:XS):restX ops (k+1) x=if (restX ops k x).code=0 then nextX ops (restX ops k x) else restX ops k x:=rfl
theorem playX_succ (ops:List OpE) (evs:List EventE) (k:Nat) (x:XS):playX ops evs (k+1) x=if (playX ops evs k x).code=0 then happenX ops (playX ops evs k x) (eAt eEvent evs k) else playX ops evs k x:=rfl
def begX (M:Mach):XS:=⟨M,0,0,[]⟩
def endX (M:Mach) (ops:List OpE) (evs:List EventE):XS:=restX ops ops.length (playX ops evs evs.length (begX M))
def execOk (M:Mach) (ops:List OpE) (evs:List EventE):Bool:=validB M && decide (ops.length<=20000) && decide (evs.length<=10000) && (List.range evs.length).all (fun i=>evOk (eAt eEvent evs i))
def execR (M:Mach) (ops:List OpE) (evs:List EventE):XS:=if execOk M ops evs then endX M ops evs else ⟨zM,0,9,[]⟩
structure XOk (ops:List OpE) (x:XS):Prop where
 vm:VM x.M
 at':x.at'<=ops.length
 code:0<=x.code/\x.code<=9
theorem opM_code (M:Mach) (o:OpE):0<=(opM M o).2/\(opM M o).2<=9:=by
 unfold opM wrCode
 repeat' split
 all_goals first | decide | (dsimp only; decide) | skip
 all_goals (dsimp only; repeat' split) <;> omega
theorem opM_same {M:Mach} {o:OpE} (h:(opM M o).2 ≠ 0):(opM M o).1=M:=by
 unfold opM at h ⊢
 split
 ·rfl
 ·rename_i hb
  rw [if_neg hb] at h
  split
  ·rename_i hk
   rw [if_pos hk] at h
   dsimp only at h ⊢
   rw [if_neg h]
  ·rename_i hk
   rw [if_neg hk] at h
   split
   ·rename_i h2
    rw [if_pos h2] at h
    exact absurd rfl h
   ·rename_i h2
    rw [if_neg h2] at h
    split
    ·rename_i h3
     rw [if_pos h3] at h
     exact absurd rfl h
    ·rfl
theorem nextX_ok {ops:List OpE} (ho:∀ i,OpOk (opAt ops i)) {x:XS} (h:XOk ops x):XOk ops (nextX ops x):=by
 unfold nextX
 split
 ·split
  ·exact ⟨opM_vm h.vm _ (ho _),by dsimp only; omega,by dsimp only; decide⟩
  ·exact ⟨h.vm,h.at',opM_code _ _⟩
 ·exact h
theorem evOk_page {e:EventE} (h:evOk e=true):(0<=e.page/\e.page < 4096)/\(0<=e.choice/\e.choice<=65535)/\0<=e.kind/\e.kind<=4/\(e.kind=4->needOk e.need=true)/\(e.kind ≠ 4->e.need=0):=by
 unfold evOk pageOk choiceOk at h
 simp only [Bool.and_eq_true,decide_eq_true_eq] at h
 obtain ⟨⟨h1,h2⟩,h3⟩:=h
 refine ⟨h1,h2,?_⟩
 split at h3
 ·rename_i hk
  exact ⟨by omega,by omega,fun _=>h3,fun hn=>absurd hk hn⟩
 ·rename_i hk
  simp only [Bool.and_eq_true,decide_eq_true_eq] at h3
  exact ⟨h3.1.2,by omega,fun hh=>absurd hh hk,fun _=>h3.1.1⟩
theorem happenX_ok {ops:List OpE} (ho:∀ i,OpOk (opAt ops i)) {x:XS} (h:XOk ops x) {e:EventE} (he:evOk e=true):XOk ops (happenX ops x e):=by
 obtain ⟨hp,hc,hk⟩:=evOk_page he
 unfold happenX
 split
 ·exact nextX_ok ho h
 ·split
  ·exact ⟨walkM_vm h.vm _ _ hp.1 hp.2,h.at',h.code⟩
  ·split
   ·exact ⟨keepT_vm h.vm _ _,h.at',h.code⟩
   ·split
    ·exact ⟨keepW_vm h.vm _ _,h.at',h.code⟩
    ·exact ⟨accN_vm h.vm _ _ hp.1 hp.2,h.at',h.code⟩
theorem playX_ok {ops:List OpE} (ho:∀ i,OpOk (opAt ops i)) {evs:List EventE} (he:∀ i,i < evs.length->evOk (eAt eEvent evs i)=true) {x:XS} (h:XOk ops x):∀ k,k<=evs.length->XOk ops (playX ops evs k x)
 | 0,_=>h
 | k+1,hk=>by
  unfold playX
  dsimp only
  split
  ·exact happenX_ok ho (playX_ok ho he h k (by omega)) (he k (by omega))
  ·exact playX_ok ho he h k (by omega)
theorem restX_ok {ops:List OpE} (ho:∀ i,OpOk (opAt ops i)) {x:XS} (h:XOk ops x):∀ k,XOk ops (restX ops k x)
 | 0=>h
 | k+1=>by
  unfold restX
  dsimp only
  split
  ·exact nextX_ok ho (restX_ok ho h k)
  ·exact restX_ok ho h k
theorem happenX_seen (ops:List OpE) (x:XS) (e:EventE):(happenX ops x e).seen.length<=x.seen.length+1:=by
 unfold happenX nextX
 repeat' split
 all_goals simp
theorem nextX_seen (ops:List OpE) (x:XS):(nextX ops x).seen=x.seen:=by
 unfold nextX
 repeat' split
 all_goals rfl
theorem playX_seen (ops:List OpE) (evs:List EventE) (x:XS):∀ k,(playX ops evs k x).seen.length<=x.seen.length+k
 | 0=>Nat.le_refl _
 | k+1=>by
  have ih:=playX_seen ops evs x k
  unfold playX
  dsimp only
  split
  ·have:=happenX_seen ops (playX ops evs k x) (eAt eEvent evs k); omega
  ·omega
theorem restX_seen (ops:List OpE) (x:XS):∀ k,(restX ops k x).seen=x.seen
 | 0=>rfl
 | k+1=>by
  unfold restX
  dsimp only
  split
  ·rw [nextX_seen]; exact restX_seen ops x k
  ·exact restX_seen ops x k
def doneX (ops:List OpE) (x:XS):Prop:=x.code ≠ 0\/¬ x.at' < ops.length
theorem nextX_done {ops:List OpE} {x:XS} (h:¬ x.at' < ops.length):nextX ops x=x:=by unfold nextX; rw [if_neg h]
theorem restX_stay {ops:List OpE} {x:XS} {k:Nat} (h:doneX ops (restX ops k x)):∀ j,restX ops (k+j) x=restX ops k x
 | 0=>rfl
 | j+1=>by
  rw [show k+(j+1)=(k+j)+1 by omega,restX_succ,restX_stay h j]
  split
  ·rename_i hc
   rcases h with h | h
   ·exact absurd hc h
   ·exact nextX_done h
  ·rfl
theorem nextX_at {ops:List OpE} {x:XS} (h:x.at' < ops.length) (hc:(nextX ops x).code=0):(nextX ops x).at'=x.at'+1:=by
 unfold nextX at hc ⊢
 rw [if_pos h] at hc ⊢
 split
 ·rfl
 ·rename_i hn
  rw [if_neg hn] at hc
  exact absurd hc hn
theorem restX_at {ops:List OpE} {x:XS} (hx:x.code=0):∀ k,doneX ops (restX ops k x)\/((restX ops k x).code=0/\(restX ops k x).at'=x.at'+k)
 | 0=>.inr ⟨hx,rfl⟩
 | k+1=>by
  rcases restX_at hx k with h | ⟨h1,h2⟩
  ·have:=restX_stay h 1
   rw [this]
   exact .inl h
  ·have e:restX ops (k+1) x=nextX ops (restX ops k x):=by
    rw [restX_succ,if_pos h1]
   rw [e]
   by_cases hl:(restX ops k x).at' < ops.length
   ·by_cases hc:(nextX ops (restX ops k x)).code=0
    ·exact .inr ⟨hc,by rw [nextX_at hl hc,h2]; omega⟩
    ·exact .inl (.inl hc)
   ·rw [nextX_done hl]
    exact .inl (.inr hl)
theorem restX_done {ops:List OpE} {x:XS}:doneX ops (restX ops ops.length x):=by
 by_cases hx:x.code=0
 ·rcases restX_at (ops:=ops) hx ops.length with h | ⟨h1,h2⟩
  ·exact h
  ·exact .inr (by omega)
 ·have:∀ k,restX ops k x=x:=by
   intro k
   induction k with
   | zero=>rfl
   | succ k ih =>
    unfold restX
    dsimp only
    rw [ih,if_neg hx]
  rw [this]
  exact .inl hx
theorem endX_at {M:Mach} {ops:List OpE} {evs:List EventE} (ho:∀ i,OpOk (opAt ops i)) (hv:VM M) (he:∀ i,i < evs.length->evOk (eAt eEvent evs i)=true) (hc:(endX M ops evs).code=0):(endX M ops evs).at'=ops.length:=by
 have h1:XOk ops (endX M ops evs):=restX_ok ho (playX_ok ho he ⟨hv,by simp [begX],by simp [begX]⟩ _ (Nat.le_refl _)) _
 have h2:=h1.at'
 have h3:doneX ops (endX M ops evs):=restX_done
 rcases h3 with h3 | h3
 ·exact absurd hc h3
 ·omega
end Go.Proofs.YtiiejckfcnmhoabGreat
