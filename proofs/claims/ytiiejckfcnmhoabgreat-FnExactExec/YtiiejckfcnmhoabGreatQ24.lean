import Derived.Test.YtiiejckfcnmhoabGreatQ15
import Derived.Test.YtiiejckfcnmhoabGreatQ18
import Derived.Test.YtiiejckfcnmhoabGreatQ23
import Derived.Test.YtiiejckfcnmhoabGreatQ21
import Derived.Test.YtiiejckfcnmhoabGreatQ17
namespace Go.Proofs.YtiiejckfcnmhoabGreat
open Go.ChangeShapes Go.WideShapes Go.ChangeAt Go.RowKit
set_option linter.unusedVariables false
def lateTo (M:Mach) (k:Nat):List Int:=(M.pend.take k).foldl (fun z e=>z.set e.addr.toNat e.word) M.mem
theorem lateTo_succ (M:Mach) (k:Nat) (hk:k < M.pend.length):lateTo M (k+1)=(lateTo M k).set (eAt eWrite M.pend k).addr.toNat (eAt eWrite M.pend k).word:=by
 unfold lateTo
 rw [List.take_add_one,List.foldl_append]
 have:M.pend[k]?=some (eAt eWrite M.pend k):=by
  unfold eAt
  rw [List.getD_eq_getElem?_getD,List.getElem?_eq_getElem hk]
  rfl
 rw [this]
 rfl
theorem lateTo_all (M:Mach):lateTo M M.pend.length=lateL M:=by
 unfold lateTo lateL
 rw [List.take_length]
theorem lateTo_length (M:Mach):∀ k,k<=M.pend.length->(lateTo M k).length=M.mem.length
 | 0,_=>rfl
 | k+1,hk=>by rw [lateTo_succ M k (by omega),List.length_set]; exact lateTo_length M k (by omega)
theorem lateL_length (M:Mach):(lateL M).length=M.mem.length:=by
 rw [<- lateTo_all]; exact lateTo_length M _ (Nat.le_refl _)
theorem late_read (M:Mach) (A:Nat) (hA:A < M.mem.length) (hp:∀ i,i < M.pend.length->0<=(eAt eWrite M.pend i).addr):∀ k,k<=M.pend.length->(lateTo M k).getD A 0=readTo M A k
 | 0,_=>by simp [lateTo,readTo]
 | k+1,hk=>by
  have ih:=late_read M A hA hp k (by omega)
  have hl:=lateTo_length M k (by omega)
  have h0:=hp k (by omega)
  rw [lateTo_succ M k (by omega)]
  unfold readTo
  rw [List.getD_eq_getElem?_getD,List.getElem?_set]
  by_cases h:(eAt eWrite M.pend k).addr=(A:Int)
  ·rw [if_pos (by omega),if_pos h,if_pos (by omega)]
   rfl
  ·rw [if_neg (by omega),if_neg h,<- List.getD_eq_getElem?_getD]
   exact ih
theorem lateL_read (M:Mach) (A:Nat) (hA:A < M.mem.length) (hp:∀ i,i < M.pend.length->0<=(eAt eWrite M.pend i).addr):(lateL M).getD A 0=readTo M A M.pend.length:=by
 rw [<- lateTo_all]; exact late_read M A hA hp _ (Nat.le_refl _)
structure OpE where
 kind:Int
 a:Int
 b:Int
 word:Int
structure OpOk (o:OpE):Prop where
 k:-9223372036854775808<=o.kind/\o.kind<=9223372036854775807
 a:-9223372036854775808<=o.a/\o.a<=9223372036854775807
 b:-9223372036854775808<=o.b/\o.b<=9223372036854775807
 w:0<=o.word/\o.word < 2 ^ 64
def opB (M:Mach) (o:OpE):Bool :=
 if o.kind=1 then decide (0<=o.a/\o.a < M.mem.length/\o.b=0/\M.pend.length < 10000)
 else if o.kind=2 then decide (o.a=0/\o.b=0/\o.word=0)
 else if o.kind=3 then decide (0<=o.a/\o.a < 4096/\1<=o.b/\o.a+o.b<=4096/\o.word=0)
 else if o.kind=4 then decide (0<=o.a/\o.a < nfr M.mem.length/\o.b=0/\o.word=0)
 else false
def plcHas (ps:List P3) (f:Int):Bool:=anyR (fun i=>decide ((pAt ps i).fr=f)) ps.length
def cachT (M:Mach) (pg n:Int) (i:Nat):Bool:=meets (eAt eTlb M.tlb i).page (eAt eTlb M.tlb i).size pg n
def cachW (M:Mach) (lv pg n:Int) (i:Nat):Bool:=decide (lv < (eAt eWc M.wc i).level) && meets (eAt eWc M.wc i).page (16 * cov (eAt eWc M.wc i).level) pg n
def cachedB (M:Mach) (lv pg n:Int):Bool:=anyR (cachT M pg n) M.tlb.length || anyR (cachW M lv pg n) M.wc.length
def plcC (M:Mach) (ps:List P3) (f ix:Int) (i:Nat):Bool:=decide ((pAt ps i).fr=f) && cachedB M (pAt ps i).lv ((pAt ps i).pg+ix * cov (pAt ps i).lv) (cov (pAt ps i).lv)
def oldW (M:Mach) (a:Int):Int:=(lateL M).getD a.toNat 0
def wrCode (M:Mach) (o:OpE):Int :=
 if o.word % 2=0 then 0
 else if oldW M o.a % 2=1 then (if oldW M o.a ≠ o.word/\plcHas (plist (lateL M)) (o.a / 16)=true then 2 else 0)
 else if anyR (plcC M (plist (lateL M)) (o.a / 16) (o.a % 16)) (plist (lateL M)).length=true then 3 else 0
def wcHas (M:Mach) (f:Int):Bool:=anyR (fun i=>decide ((eAt eWc M.wc i).table=f)) M.wc.length
def inUse (M:Mach) (f:Int):Bool:=plcHas (plist M.mem) f || plcHas (plist (lateL M)) f || wcHas M f
def doomT (a b:Int) (e:TlbE):TlbE:=⟨e.page,e.size,e.out,e.perm,e.doom || meets e.page e.size a b⟩
def doomW (a b:Int) (e:WcE):WcE:=⟨e.level,e.page,e.table,e.doom || meets e.page (16 * cov e.level) a b⟩
def opM (M:Mach) (o:OpE):Mach × Int :=
 if opB M o=false then (M,1)
 else if o.kind=1 then (if wrCode M o=0 then ⟨M.mem,M.pend ++ [⟨o.a,o.word⟩],M.tlb,M.wc⟩ else M,wrCode M o)
 else if o.kind=2 then (⟨lateL M,[],M.tlb.filter (fun e=>!e.doom),M.wc.filter (fun e=>!e.doom)⟩,0)
 else if o.kind=3 then (⟨M.mem,M.pend,M.tlb.map (doomT o.a o.b),M.wc.map (doomW o.a o.b)⟩,0)
 else (M,if inUse M o.a then 4 else 0)
def stepR (M:Mach) (o:OpE):Mach × Int:=if validB M then opM M o else (zM,9)
theorem anyR_false (f:Nat->Bool) (n:Nat) (h:∀ j,j < n->f j=false):anyR f n=false:=by
 rw [anyR,List.any_eq_false]
 intro x hx
 simp [h x (List.mem_range.1 hx)]
theorem meets_comm (a n b m:Int):meets a n b m=meets b m a n:=by unfold meets; rw [Bool.and_comm]
theorem plcHas_root (zs:List Int) (h:nfr zs.length ≠ 0):plcHas (plist zs) 0=true:=by
 have e:plist zs=belowL zs (nfr zs.length) 2 ⟨0,1,0⟩:=by unfold plist; rw [if_neg h]
 rw [e]
 refine anyR_true _ 0 _ (by simp [belowL,downs]) ?_
 simp [belowL,downs,pAt]
attribute [local go_sem ↓] Go.wp_at_zero Go.wp_at_succ
structure WLoc (W:World) (R A:Nat) (at1:WcE):Prop where
 r:W.cell? ⟨R,0,none⟩=some (.int .i64 0)/\W.cell? ⟨R,1,none⟩=some (.int .i64 0)/\W.cell? ⟨R,2,none⟩=some (.int .i64 0)/\W.cell? ⟨R,3,none⟩=some (.int .i64 0)
 rf:W.frozen? ⟨R,0,none⟩=false/\W.frozen? ⟨R,1,none⟩=false/\W.frozen? ⟨R,2,none⟩=false/\W.frozen? ⟨R,3,none⟩=false
 a:W.cell? ⟨A,0,none⟩=some (.int .i64 at1.page)/\W.cell? ⟨A,1,none⟩=some (.int .i64 (16 * cov at1.level))/\W.cell? ⟨A,2,none⟩=some (.bool at1.doom)/\W.cell? ⟨A,3,none⟩=some (.int .i64 at1.level)/\W.cell? ⟨A,4,none⟩=some (.int .i64 at1.table)
 af:W.frozen? ⟨A,0,none⟩=false/\W.frozen? ⟨A,1,none⟩=false/\W.frozen? ⟨A,2,none⟩=false/\W.frozen? ⟨A,3,none⟩=false/\W.frozen? ⟨A,4,none⟩=false
 rl:R < W.heap.size
 al:A < W.heap.size
theorem WLoc.of_blocks {W W':World} {R A:Nat} {at1:WcE} (h:WLoc W R A at1) (hr:W'.heap[R]?=W.heap[R]?) (ha:W'.heap[A]?=W.heap[A]?) (hs:W.heap.size<=W'.heap.size):WLoc W' R A at1:=by
 obtain ⟨⟨r0,r1,r2,r3⟩,⟨g0,g1,g2,g3⟩,⟨a0,a1,a2,a3,a4⟩,⟨f0,f1,f2,f3,f4⟩,rl,al⟩:=h
 exact ⟨⟨(cob hr).trans r0,(cob hr).trans r1,(cob hr).trans r2,(cob hr).trans r3⟩,⟨(fob hr).trans g0,(fob hr).trans g1,(fob hr).trans g2,(fob hr).trans g3⟩,
  ⟨(cob ha).trans a0,(cob ha).trans a1,(cob ha).trans a2,(cob ha).trans a3,(cob ha).trans a4⟩,⟨(fob ha).trans f0,(fob ha).trans f1,(fob ha).trans f2,(fob ha).trans f3,(fob ha).trans f4⟩,by omega,by omega⟩
theorem WLoc.below {W W':World} {R A:Nat} {at1:WcE} (h:WLoc W R A at1) (hb:Below W.heap.size W W'):WLoc W' R A at1:=h.of_blocks (hb.block _ h.rl) (hb.block _ h.al) hb.size
theorem dKind_end (l x:Int) (h2:¬ dKind l x=2) (h3:¬ dKind l x=3) (page choice:Int) (M:Mach) (doom:Bool):endM page choice M l x doom=(M,if dKind l x=0 then ⟨0,0,0,0⟩ else ⟨3,0,0,0⟩):=by
 unfold endM
 by_cases h0:dKind l x=0
 ·simp [h0]
 ·simp [h0,h2,h3]
theorem dKind_map (l x:Int) (h:dKind l x=2\/dKind l x=3) (page choice:Int) (M:Mach) (doom:Bool):cov l=sizR l x/\(sizR l x=1\/sizR l x=16)/\endM page choice M l x doom=(if bitI choice 6 then addTlbM M ⟨page - page % sizR l x,sizR l x,dOut l x,dPerm l x,doom⟩ else M,⟨1,dOut l x+page % sizR l x,dPerm l x,sizR l x⟩):=by
 have h0:¬ dKind l x=0:=by omega
 refine ⟨?_,?_,?_⟩
 ·unfold sizR
  rcases h with h | h
  ·rw [if_pos h,dKind_2 l x h]; rfl
  ·rw [if_neg (by omega),dKind_is3 l x h]; rfl
 ·unfold sizR; split <;> simp
 ·unfold endM
  rw [if_neg h0,if_pos h]
theorem end_any (gu b0 B:Nat) (L:Bool) (u:UV) (M:Mach) (page choice:Int) (at':WcE) (x:Int) (hp0:0<=page) (hp1:page < 4096) (hc0:0<=choice) (hc1:choice<=65535) (hn:M.tlb.length<=256) (w:World) (hB:B<=w.heap.size) (h:UM w gu b0 B L u M) :
  Calls Tryz.prog 137 #[.pointer (some ⟨gu,0,none⟩),tabV at',.agg #[.int .i64 (dKind at'.level x),.int .i64 (dOut at'.level x),.int .i64 (dPerm at'.level x)],.int .i64 page,.int .i64 choice] w fun r w'=>r=.returned (hitV (endM page choice M at'.level x at'.doom).2)/\∃ u',UStep w w' gu b0 B L u u' (endM page choice M at'.level x at'.doom).1:=by
 by_cases hm:dKind at'.level x=2\/dKind at'.level x=3
 ·obtain ⟨e1,e2,e3⟩:=dKind_map at'.level x hm page choice M at'.doom
  rw [e3]
  exact end_map gu b0 B L u M page choice at' _ _ _ _ hm e2 e1 (dOut_lo _ _) hp0 hp1 hc0 hc1 hn w hB h
 ·rw [dKind_end at'.level x (fun e=>hm (.inl e)) (fun e=>hm (.inr e)) page choice M at'.doom]
  refine (end_none gu b0 B L u M page choice at' _ _ _ ⟨fun e=>hm (.inl e),fun e=>hm (.inr e)⟩ w h).mono ?_
  rintro r w' ⟨rfl,hb⟩
  exact ⟨rfl,u,UStep.refl h hb⟩
theorem readM_any (gu b0 B:Nat) (L:Bool) (u:UV) (M:Mach) (Ad:Nat) (late:Bool) (w:World) (hA:Ad < M.mem.length) (hl:late=true->L=true) (hp:L=true->∀ i,i < M.pend.length->0<=(eAt eWrite M.pend i).addr) (h:UM w gu b0 B L u M) :
  Calls Tryz.prog 134 #[.pointer (some ⟨gu,0,none⟩),.int .i64 Ad,.bool late] w fun e w'=>e=.returned (.int .u64 (readM M Ad late))/\Below w.heap.size w w':=by
 cases late
 ·obtain ⟨ga,ca,hae,haf⟩:=eWord_form h.w
  obtain ⟨g,N,f,hag,_,hr,hN,hf⟩:=haf (by omega)
  simp only [Value.slice.injEq] at hae
  have c:=hr.cell (i:=Ad) (by omega)
  rw [hf Ad hA] at c
  have q:=h.q0
  rw [hae.1,hag] at q
  exact readU_any gu g 0 M.mem.length u.c1 0 0 Ad false _ w (fun _=>⟨q,hA,by rw [c]; simp [readM]⟩) (fun h=>by cases h)
 ·have hL:=hl rfl
  obtain ⟨e2,hrow⟩:=h.l hL
  have hll:=lateL_length M
  obtain ⟨ga,ca,hae,haf⟩:=eWord_form hrow
  obtain ⟨g,N,f,hag,_,hr,hN,hf⟩:=haf (by omega)
  simp only [Value.slice.injEq] at hae
  have c:=hr.cell (i:=Ad) (by omega)
  rw [hf Ad (by omega),lateL_read M Ad hA (hp hL)] at c
  have q:=h.q1
  rw [hae.1,hag] at q
  exact readU_any gu 0 g 0 0 u.n2 u.c2 Ad true _ w (fun h=>by cases h) (fun _=>⟨q,by omega,c⟩)
structure WAt (w W:World) (gu b0 B:Nat) (L:Bool) (u:UV) (M:Mach) (page choice:Int) (A:Nat) (u1:UV) (M1:Mach) (at1:WcE):Prop where
 loc:WLoc W w.heap.size A at1
 A0:w.heap.size < A
 st:UStep w W gu b0 B L u u1 M1
 go:goM page choice (3 - at1.level).toNat M1 at1.level at1.table at1.doom=walkM M page choice
 ok:WOk M1
 mem:M1.mem=M.mem
 pend:M1.pend=M.pend
 l1:1<=at1.level
 l3:at1.level<=3
 t0:0<=at1.table
 t1:at1.table < nfr M.mem.length
 nR:¬ u1.wr gu w.heap.size
 nA:¬ u1.wr gu A
theorem go_end (page choice:Int) (M:Mach) (level table X:Int) (doom:Bool) (hl1:1<=level) (hl3:level<=3) (hX:X=wordM M page choice level table) (h:¬ (dKind level X=1/\dOut level X < nfr M.mem.length)):goM page choice (3 - level).toNat M level table doom=endM page choice M level X doom:=by
 rcases (show (3 - level).toNat=0\/∃ d,(3 - level).toNat=d+1 from by cases h:(3 - level).toNat with | zero=>exact .inl rfl | succ d=>exact .inr ⟨d,rfl⟩) with e | ⟨d,e⟩
 ·rw [e,hX]; rfl
 ·rw [e,hX]
  unfold goM
  rw [if_neg]
  intro hl
  apply h
  rw [hX]
  simpa [leadsM] using hl
theorem go_step (page choice:Int) (M:Mach) (level table X:Int) (doom:Bool) (hl1:1<=level) (hl3:level<=3) (hX:X=wordM M page choice level table) (hK:dKind level X=1) (hO:dOut level X < nfr M.mem.length):level < 3/\goM page choice (3 - level).toNat M level table doom=goM page choice (3 - (level+1)).toNat (stepM page choice M level X doom) (level+1) (dOut level X) doom:=by
 have hlt:level < 3:=by
  rcases Int.lt_or_eq_of_le hl3 with h | h
  ·exact h
  ·rw [h] at hK; exact absurd hK (dKind_3 X)
 refine ⟨hlt,?_⟩
 obtain ⟨d,e⟩:∃ d,(3 - level).toNat=d+1:=⟨(3 - (level+1)).toNat,by omega⟩
 have e2:(3 - (level+1)).toNat=d:=by omega
 rw [e,e2,hX]
 conv=>lhs; unfold goM
 rw [if_pos]
 rw [<- hX]
 simp [leadsM,hK,hO]
theorem go_any (page choice:Int) (hp0:0<=page) (hp1:page < 4096) (hc0:0<=choice) (hc1:choice<=65535):∀ (d:Nat) (s:SV) (M:Mach) (b:Nat) (level frame:Int) (doom:Bool) (w:World),(3 - level).toNat=d->WOk M->1<=level->level<=3->0<=frame->frame < nfr M.mem.length->b<=w.heap.size->MRow w b (s.mv M) M ->
  Calls Tryz.prog 92 #[.agg #[.slice s.a1 M.mem.length s.c1,.slice s.a2 M.pend.length s.c2,.slice s.a3 M.tlb.length s.c3,.slice s.a4 M.wc.length s.c4],.int .i64 page,.int .i64 choice,.int .i64 level,.int .i64 frame,.bool doom] w fun r w'=>∃ s':SV,r=.returned (.tuple #[.agg #[.slice s'.a1 ((goM page choice (3 - level).toNat M level frame doom)).1.mem.length s'.c1,.slice s'.a2 ((goM page choice (3 - level).toNat M level frame doom)).1.pend.length s'.c2,.slice s'.a3 ((goM page choice (3 - level).toNat M level frame doom)).1.tlb.length s'.c3,.slice s'.a4 ((goM page choice (3 - level).toNat M level frame doom)).1.wc.length s'.c4],hitV ((goM page choice (3 - level).toNat M level frame doom)).2])/\MRow w' b (s'.mv ((goM page choice (3 - level).toNat M level frame doom)).1) ((goM page choice (3 - level).toNat M level frame doom)).1/\(∀ k,(s'.mv ((goM page choice (3 - level).toNat M level frame doom)).1).owns k->(s.mv M).owns k\/w.heap.size<=k)/\Below w.heap.size w w':=by
 intro d
 induction d with
 | zero =>
  intro s M b level frame doom w hd hok hl1 hl3 hf0 hf1 hb0 h
  refine go_any1 s M b page choice level frame doom w hok hp0 hp1 hc0 hc1 hl1 hl3 hf0 hf1 hb0 h (goM page choice (3 - level).toNat M level frame doom) (fun hn=>go_end page choice M level frame _ doom hl1 hl3 rfl hn) (fun hK hO s1 b1 wX hb1 h1=>?_)
  have:=(go_step page choice M level frame _ doom hl1 hl3 rfl hK hO).1
  omega
 | succ d ih =>
  intro s M b level frame doom w hd hok hl1 hl3 hf0 hf1 hb0 h
  refine go_any1 s M b page choice level frame doom w hok hp0 hp1 hc0 hc1 hl1 hl3 hf0 hf1 hb0 h (goM page choice (3 - level).toNat M level frame doom) (fun hn=>go_end page choice M level frame _ doom hl1 hl3 rfl hn) (fun hK hO s1 b1 wX hb1 h1=>?_)
  obtain ⟨hlt,e⟩:=go_step page choice M level frame _ doom hl1 hl3 rfl hK hO
  rw [e]
  have hm:=(stepM_mem page choice M level (wordM M page choice level frame) doom).1
  exact ih s1 _ b1 (level+1) _ doom wX (by omega) (stepM_ok hok page choice level _ doom) (by omega) (by omega) (dOut_lo _ _).1 (by rw [hm]; exact hO) hb1 h1
theorem wcCov_any (e:WcE) (p:Int) (hp0:0<=p) (hp1:p < 100000) (hl:e.level=2\/e.level=3) (w:World) :
  Calls Tryz.prog 91 #[.agg #[.int .i64 e.level,.int .i64 e.page,.int .i64 e.table,.bool e.doom],.int .i64 p] w fun r w'=>r=.returned (.bool (wcCov e p))/\Below w.heap.size w w':=by
 obtain ⟨a1,a2,a3,a4⟩:=e
 rcases hl with hl | hl
 ·have hl:a1=2:=hl
  subst hl
  exact wcCov_2 a2 a3 p a4 hp0 hp1 w
 ·have hl:a1=3:=hl
  subst hl
  exact wcCov_3 a2 a3 p a4 hp0 hp1 w
theorem u64_lt {x:Int} (h:(Lit.int .u64 x).wf=true):0<=x/\x < 2 ^ 64:=by
 have:=bounds_u64 h
 omega
theorem cellsOpL:Tryz.prog.cellsOf 48=4:=by kernel_rfl
set_option maxRecDepth 100000 in
set_option maxHeartbeats 1000000 in
theorem elOp {H:Type} {enc:TypeId × Value->H} {W:World} {sp:Nat->Bool} (n:Nat) (cs:List Value) (y:DataW H × List MemPlace) (h:DataW.trod enc Tryz.prog W 0 sp true n 48 cs=some y):∃ x:OpE,cs=[.int .i64 x.kind,.int .i64 x.a,.int .i64 x.b,.int .u64 x.word]/\OpOk x:=by
 obtain ⟨xs,m,_,_,hl,hlen,hf⟩:=DataW.trod_struct Tryz.underlying48 h
 rw [cellsOpL] at hl
 obtain ⟨v0,v1,v2,v3,rfl⟩:=list4 hl
 have h0:DataW.trod enc Tryz.prog W 0 sp true m 3 [v0]=xs[0]?:=hf 0 _ rfl
 have k0:∃ z,xs[0]?=some z:=⟨_,List.getElem?_eq_getElem (by rw [hlen]; decide)⟩
 obtain ⟨z0,e0⟩:=k0
 rw [e0] at h0
 obtain ⟨q0,r0,_,w0⟩:=DataW.trod_int Tryz.underlying3 h0
 simp only [List.cons.injEq,and_true] at r0
 have h1:DataW.trod enc Tryz.prog W 0 sp true m 3 [v1]=xs[1]?:=hf 1 _ rfl
 have k1:∃ z,xs[1]?=some z:=⟨_,List.getElem?_eq_getElem (by rw [hlen]; decide)⟩
 obtain ⟨z1,e1⟩:=k1
 rw [e1] at h1
 obtain ⟨q1,r1,_,w1⟩:=DataW.trod_int Tryz.underlying3 h1
 simp only [List.cons.injEq,and_true] at r1
 have h2:DataW.trod enc Tryz.prog W 0 sp true m 3 [v2]=xs[2]?:=hf 2 _ rfl
 have k2:∃ z,xs[2]?=some z:=⟨_,List.getElem?_eq_getElem (by rw [hlen]; decide)⟩
 obtain ⟨z2,e2⟩:=k2
 rw [e2] at h2
 obtain ⟨q2,r2,_,w2⟩:=DataW.trod_int Tryz.underlying3 h2
 simp only [List.cons.injEq,and_true] at r2
 have h3:DataW.trod enc Tryz.prog W 0 sp true m 46 [v3]=xs[3]?:=hf 3 _ rfl
 have k3:∃ z,xs[3]?=some z:=⟨_,List.getElem?_eq_getElem (by rw [hlen]; decide)⟩
 obtain ⟨z3,e3⟩:=k3
 rw [e3] at h3
 obtain ⟨q3,r3,_,w3⟩:=DataW.trod_int Tryz.underlying46 h3
 simp only [List.cons.injEq,and_true] at r3
 exact ⟨⟨q0,q1,q2,q3⟩,by rw [r0,r1,r2,r3],⟨bounds_i64 w0,bounds_i64 w1,bounds_i64 w2,u64_lt w3⟩⟩
structure EvRng (e:EventE):Prop where
 k:-9223372036854775808<=e.kind/\e.kind<=9223372036854775807
 p:-9223372036854775808<=e.page/\e.page<=9223372036854775807
 n:-9223372036854775808<=e.need/\e.need<=9223372036854775807
 c:-9223372036854775808<=e.choice/\e.choice<=9223372036854775807
theorem cellsEventL:Tryz.prog.cellsOf 123=4:=by kernel_rfl
set_option maxRecDepth 100000 in
set_option maxHeartbeats 1000000 in
theorem elEvent {H:Type} {enc:TypeId × Value->H} {W:World} {sp:Nat->Bool} (n:Nat) (cs:List Value) (y:DataW H × List MemPlace) (h:DataW.trod enc Tryz.prog W 0 sp true n 123 cs=some y):∃ x:EventE,cs=[.int .i64 x.kind,.int .i64 x.page,.int .i64 x.need,.int .i64 x.choice]/\EvRng x:=by
 obtain ⟨xs,m,_,_,hl,hlen,hf⟩:=DataW.trod_struct Tryz.underlying123 h
 rw [cellsEventL] at hl
 obtain ⟨v0,v1,v2,v3,rfl⟩:=list4 hl
 have h0:DataW.trod enc Tryz.prog W 0 sp true m 3 [v0]=xs[0]?:=hf 0 _ rfl
 have k0:∃ z,xs[0]?=some z:=⟨_,List.getElem?_eq_getElem (by rw [hlen]; decide)⟩
 obtain ⟨z0,e0⟩:=k0
 rw [e0] at h0
 obtain ⟨q0,r0,_,w0⟩:=DataW.trod_int Tryz.underlying3 h0
 simp only [List.cons.injEq,and_true] at r0
 have h1:DataW.trod enc Tryz.prog W 0 sp true m 3 [v1]=xs[1]?:=hf 1 _ rfl
 have k1:∃ z,xs[1]?=some z:=⟨_,List.getElem?_eq_getElem (by rw [hlen]; decide)⟩
 obtain ⟨z1,e1⟩:=k1
 rw [e1] at h1
 obtain ⟨q1,r1,_,w1⟩:=DataW.trod_int Tryz.underlying3 h1
 simp only [List.cons.injEq,and_true] at r1
 have h2:DataW.trod enc Tryz.prog W 0 sp true m 3 [v2]=xs[2]?:=hf 2 _ rfl
 have k2:∃ z,xs[2]?=some z:=⟨_,List.getElem?_eq_getElem (by rw [hlen]; decide)⟩
 obtain ⟨z2,e2⟩:=k2
 rw [e2] at h2
 obtain ⟨q2,r2,_,w2⟩:=DataW.trod_int Tryz.underlying3 h2
 simp only [List.cons.injEq,and_true] at r2
 have h3:DataW.trod enc Tryz.prog W 0 sp true m 3 [v3]=xs[3]?:=hf 3 _ rfl
 have k3:∃ z,xs[3]?=some z:=⟨_,List.getElem?_eq_getElem (by rw [hlen]; decide)⟩
 obtain ⟨z3,e3⟩:=k3
 rw [e3] at h3
 obtain ⟨q3,r3,_,w3⟩:=DataW.trod_int Tryz.underlying3 h3
 simp only [List.cons.injEq,and_true] at r3
 exact ⟨⟨q0,q1,q2,q3⟩,by rw [r0,r1,r2,r3],⟨bounds_i64 w0,bounds_i64 w1,bounds_i64 w2,bounds_i64 w3⟩⟩
end Go.Proofs.YtiiejckfcnmhoabGreat
