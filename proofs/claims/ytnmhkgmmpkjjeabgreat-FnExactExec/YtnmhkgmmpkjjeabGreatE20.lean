import Derived.Test.YtnmhkgmmpkjjeabGreatE19
import Derived.Test.YtnmhkgmmpkjjeabGreatE17
import Derived.Test.YtnmhkgmmpkjjeabGreatE14
namespace Go.Proofs.YtnmhkgmmpkjjeabGreat
open ChangeShapes WideShapes ChangeAt RowKit Proofs.Tryz
set_option linter.all false
set_option maxRecDepth 100000
def Bx (M:A9) (k:Nat):List Int:=(M.pend.take k).foldl (fun z e=>z.set e.addr.toNat e.word) M.mem
theorem DQ(M:A9)(k:Nat)(hk:k<M.pend.length):Bx M (k+1)=(Bx M k).set (A8 AA M.pend k).addr.toNat (A8 AA M.pend k).word:=by
 unfold Bx;rw[List.take_add_one,List.foldl_append];have:M.pend[k]?=some (A8 AA M.pend k):=by
  unfold A8;rw[List.getD_eq_getElem?_getD,List.getElem?_eq_getElem hk];rfl
 rw[this];rfl
theorem Dk(M:A9):Bx M M.pend.length=AE M:=by
 unfold Bx AE;rw[List.take_length]
theorem CJ(M:A9):∀k,k<=M.pend.length->(Bx M k).length=M.mem.length
 | 0,_=>rfl
 | k+1,hk=>by rw[DQ M k (by omega),List.length_set];exact CJ M k (by omega)
theorem Ac(M:A9):(AE M).length=M.mem.length:=by
 rw[<- Dk];exact CJ M _ (Nat.le_refl _)
theorem Gv(M:A9)(A:Nat)(hA:A<M.mem.length)(hp:∀i,i<M.pend.length->0<=(A8 AA M.pend i).addr):∀k,k<=M.pend.length->(Bx M k).getD A 0=C5 M A k
 | 0,_=>by simp[Bx,C5]
 | k+1,hk=>by
  have ih:=Gv M A hA hp k (by omega);have hl:=CJ M k (by omega);have h0:=hp k (by omega);rw[DQ M k (by omega)];unfold C5;rw[List.getD_eq_getElem?_getD,List.getElem?_set];by_cases h:(A8 AA M.pend k).addr=(A:Int)
  ·rw[if_pos (by omega),if_pos h,if_pos (by omega)];rfl
  ·rw[if_neg (by omega),if_neg h,<- List.getD_eq_getElem?_getD];exact ih
theorem GW(M:A9)(A:Nat)(hA:A<M.mem.length)(hp:∀i,i<M.pend.length->0<=(A8 AA M.pend i).addr):(AE M).getD A 0=C5 M A M.pend.length:=by
 rw[<- Dk];exact Gv M A hA hp _ (Nat.le_refl _)
section
attribute [local go_sem ↓] wp_at_zero wp_at_succ
structure Gq (W:World) (R A:Nat) (at1:CI):Prop where
 r:W.cell? ⟨R,0,none⟩=some (.int .i64 0)/\W.cell? ⟨R,1,none⟩=some (.int .i64 0)/\W.cell? ⟨R,2,none⟩=some (.int .i64 0)/\W.cell? ⟨R,3,none⟩=some (.int .i64 0)
 rf:W.frozen? ⟨R,0,none⟩=false/\W.frozen? ⟨R,1,none⟩=false/\W.frozen? ⟨R,2,none⟩=false/\W.frozen? ⟨R,3,none⟩=false
 a:W.cell? ⟨A,0,none⟩=some (.int .i64 at1.page)/\W.cell? ⟨A,1,none⟩=some (.int .i64 (16*Ab at1.level))/\W.cell? ⟨A,2,none⟩=some (.bool at1.doom)/\W.cell? ⟨A,3,none⟩=some (.int .i64 at1.level)/\W.cell? ⟨A,4,none⟩=some (.int .i64 at1.table)
 af:W.frozen? ⟨A,0,none⟩=false/\W.frozen? ⟨A,1,none⟩=false/\W.frozen? ⟨A,2,none⟩=false/\W.frozen? ⟨A,3,none⟩=false/\W.frozen? ⟨A,4,none⟩=false
 rl:R<W.heap.size
 al:A<W.heap.size
theorem Gq.of_blocks{W W':World}{R A:Nat}{at1:CI}(h:Gq W R A at1)(hr:W'.heap[R]?=W.heap[R]?)(ha:W'.heap[A]?=W.heap[A]?)(hs:W.heap.size<=W'.heap.size):Gq W' R A at1:=by
 obtain⟨⟨r0,r1,r2,r3⟩,⟨g0,g1,g2,g3⟩,⟨a0,a1,a2,a3,a4⟩,⟨f0,f1,f2,f3,f4⟩,rl,al⟩:=h
 exact⟨⟨(World.cell?_of_block hr).trans r0,(World.cell?_of_block hr).trans r1,(World.cell?_of_block hr).trans r2,(World.cell?_of_block hr).trans r3⟩,⟨(World.frozen?_of_block hr).trans g0,(World.frozen?_of_block hr).trans g1,(World.frozen?_of_block hr).trans g2,(World.frozen?_of_block hr).trans g3⟩,
  ⟨(World.cell?_of_block ha).trans a0,(World.cell?_of_block ha).trans a1,(World.cell?_of_block ha).trans a2,(World.cell?_of_block ha).trans a3,(World.cell?_of_block ha).trans a4⟩,⟨(World.frozen?_of_block ha).trans f0,(World.frozen?_of_block ha).trans f1,(World.frozen?_of_block ha).trans f2,(World.frozen?_of_block ha).trans f3,(World.frozen?_of_block ha).trans f4⟩,by omega,by omega⟩
theorem Gq.below{W W':World}{R A:Nat}{at1:CI}(h:Gq W R A at1)(hb:Below W.heap.size W W'):Gq W' R A at1:=h.of_blocks (hb.block _ h.rl) (hb.block _ h.al) hb.size
theorem Kn(l x:Int)(h2:¬AZ l x=2)(h3:¬AZ l x=3)(page choice:Int)(M:A9)(doom:Bool):DN page choice M l x doom=(M,if AZ l x=0 then ⟨0,0,0,0⟩ else ⟨3,0,0,0⟩):=by
 unfold DN;by_cases h0:AZ l x=0
 ·simp[h0]
 ·simp[h0,h2,h3]
theorem LD(l x:Int)(h:AZ l x=2\/AZ l x=3)(page choice:Int)(M:A9)(doom:Bool):Ab l=DW l x/\(DW l x=1\/DW l x=16)/\DN page choice M l x doom=(if BT choice 6 then Aa M ⟨page-page%DW l x,DW l x,Bz l x,Bq l x,doom⟩ else M,⟨1,Bz l x+page%DW l x,Bq l x,DW l x⟩):=by
 have h0:¬AZ l x=0:=by omega
 refine⟨?_,?_,?_⟩
 ·unfold DW;rcases h with h|h
  ·rw[if_pos h,Mm l x h];rfl
  ·rw[if_neg (by omega),Kf l x h];rfl
 ·unfold DW;split<;>simp
 ·unfold DN;rw[if_neg h0,if_pos h]
theorem NA(gu b0 B:Nat)(L:Bool)(u:UV)(M:A9)(page choice:Int)(at':CI)(x:Int)(hp0:0<=page)(hp1:page<4096)(hc0:0<=choice)(hc1:choice<=65535)(hn:M.tlb.length<=256)(w:World)(hB:B<=w.heap.size)(h:UM w gu b0 B L u M):Calls prog 137 #[.pointer (some ⟨gu,0,none⟩),DM at',.agg #[.int .i64 (AZ at'.level x),.int .i64 (Bz at'.level x),.int .i64 (Bq at'.level x)],.int .i64 page,.int .i64 choice] w fun r w'=>r=.returned (DE (DN page choice M at'.level x at'.doom).2)/\∃u',AT w w' gu b0 B L u u' (DN page choice M at'.level x at'.doom).1:=by
 by_cases hm:AZ at'.level x=2\/AZ at'.level x=3
 ·obtain⟨e1,e2,e3⟩:=LD at'.level x hm page choice M at'.doom;rw[e3];exact N8 gu b0 B L u M page choice at' _ _ _ _ hm e2 e1 (Cp _ _) hp0 hp1 hc0 hc1 hn w hB h
 ·rw[Kn at'.level x (fun e=>hm (.inl e)) (fun e=>hm (.inr e)) page choice M at'.doom];refine(Li gu b0 B L u M page choice at' _ _ _ ⟨fun e=>hm (.inl e),fun e=>hm (.inr e)⟩ w h).mono ?_;rintro r w' ⟨rfl,hb⟩;exact⟨rfl,u,AT.refl h hb⟩
theorem Ky(gu b0 B:Nat)(L:Bool)(u:UV)(M:A9)(Ad:Nat)(late:Bool)(w:World)(hA:Ad<M.mem.length)(hl:late=true->L=true)(hp:L=true->∀i,i<M.pend.length->0<=(A8 AA M.pend i).addr)(h:UM w gu b0 B L u M):Calls prog 134 #[.pointer (some ⟨gu,0,none⟩),.int .i64 Ad,.bool late] w fun e w'=>e=.returned (.int .u64 (Ec M Ad late))/\Below w.heap.size w w':=by
 cases late
 ·obtain⟨ga,ca,hae,haf⟩:=Be h.w;obtain⟨g,N,f,hag,_,hr,hN,hf⟩:=haf (by omega);simp only[Value.slice.injEq] at hae;have c:=hr.cell (i:=Ad) (by omega);rw[hf Ad hA] at c;have q:=h.q0;rw[hae.1,hag] at q;exact Gr gu g 0 M.mem.length u.c1 0 0 Ad false _ w (fun _=>⟨q,hA,by rw[c];simp[Ec]⟩) (fun h=>by cases h)
 ·have hL:=hl rfl;obtain⟨e2,hrow⟩:=h.l hL;have hll:=Ac M;obtain⟨ga,ca,hae,haf⟩:=Be hrow;obtain⟨g,N,f,hag,_,hr,hN,hf⟩:=haf (by omega);simp only[Value.slice.injEq] at hae;have c:=hr.cell (i:=Ad) (by omega);rw[hf Ad (by omega),GW M Ad hA (hp hL)] at c;have q:=h.q1;rw[hae.1,hag] at q;exact Gr gu 0 g 0 0 u.n2 u.c2 Ad true _ w (fun h=>by cases h) (fun _=>⟨q,by omega,c⟩)
structure Nl (w W:World) (gu b0 B:Nat) (L:Bool) (u:UV) (M:A9) (page choice:Int) (A:Nat) (u1:UV) (M1:A9) (at1:CI):Prop where
 loc:Gq W w.heap.size A at1
 A0:w.heap.size<A
 st:AT w W gu b0 B L u u1 M1
 go:Fg page choice (3-at1.level).toNat M1 at1.level at1.table at1.doom=Ah M page choice
 ok:Cv M1
 mem:M1.mem=M.mem
 pend:M1.pend=M.pend
 l1:1<=at1.level
 l3:at1.level<=3
 t0:0<=at1.table
 t1:at1.table<BS M.mem.length
 nR:¬u1.wr gu w.heap.size
 nA:¬u1.wr gu A
theorem Jl(page choice:Int)(M:A9)(level table X:Int)(doom:Bool)(hl1:1<=level)(hl3:level<=3)(hX:X=BA M page choice level table)(h:¬(AZ level X=1/\Bz level X<BS M.mem.length)):Fg page choice (3-level).toNat M level table doom=DN page choice M level X doom:=by
 rcases(show (3-level).toNat=0\/∃d,(3-level).toNat=d+1 from by cases h:(3-level).toNat with|zero=>exact .inl rfl|succ d=>exact .inr ⟨d,rfl⟩) with e|⟨d,e⟩
 ·rw[e,hX];rfl
 ·rw[e,hX];unfold Fg;rw[if_neg];intro hl;apply h;rw[hX];simpa [GI] using hl
theorem IN(page choice:Int)(M:A9)(level table X:Int)(doom:Bool)(hl1:1<=level)(hl3:level<=3)(hX:X=BA M page choice level table)(hK:AZ level X=1)(hO:Bz level X<BS M.mem.length):level<3/\Fg page choice (3-level).toNat M level table doom=Fg page choice (3-(level+1)).toNat (CE page choice M level X doom) (level+1) (Bz level X) doom:=by
 have hlt:level<3:=by
  rcases Int.lt_or_eq_of_le hl3 with h|h
  ·exact h
  ·rw[h] at hK;exact absurd hK (KT X)
 refine⟨hlt,?_⟩;obtain⟨d,e⟩:∃d,(3-level).toNat=d+1:=⟨(3-(level+1)).toNat,by omega⟩
 have e2:(3-(level+1)).toNat=d:=by omega
 rw[e,e2,hX];conv=>lhs;unfold Fg
 rw[if_pos];rw[<- hX];simp[GI,hK,hO]
end
theorem NP(page choice:Int)(hp0:0<=page)(hp1:page<4096)(hc0:0<=choice)(hc1:choice<=65535):∀(d:Nat) (s:SV) (M:A9) (b:Nat) (level frame:Int) (doom:Bool) (w:World),(3-level).toNat=d->Cv M->1<=level->level<=3->0<=frame->frame<BS M.mem.length->b<=w.heap.size->AB w b (s.mv M) M -> Calls prog 92 #[.agg #[.slice s.a1 M.mem.length s.c1,.slice s.a2 M.pend.length s.c2,.slice s.a3 M.tlb.length s.c3,.slice s.a4 M.wc.length s.c4],.int .i64 page,.int .i64 choice,.int .i64 level,.int .i64 frame,.bool doom] w fun r w'=>∃s':SV,r=.returned (.tuple #[.agg #[.slice s'.a1 ((Fg page choice (3-level).toNat M level frame doom)).1.mem.length s'.c1,.slice s'.a2 ((Fg page choice (3-level).toNat M level frame doom)).1.pend.length s'.c2,.slice s'.a3 ((Fg page choice (3-level).toNat M level frame doom)).1.tlb.length s'.c3,.slice s'.a4 ((Fg page choice (3-level).toNat M level frame doom)).1.wc.length s'.c4],DE ((Fg page choice (3-level).toNat M level frame doom)).2])/\AB w' b (s'.mv ((Fg page choice (3-level).toNat M level frame doom)).1) ((Fg page choice (3-level).toNat M level frame doom)).1/\(∀k,(s'.mv ((Fg page choice (3-level).toNat M level frame doom)).1).owns k->(s.mv M).owns k\/w.heap.size<=k)/\Below w.heap.size w w':=by
 intro d;induction d with
 | zero =>
  intro s M b level frame doom w hd hok hl1 hl3 hf0 hf1 hb0 h;refine KS s M b page choice level frame doom w hok hp0 hp1 hc0 hc1 hl1 hl3 hf0 hf1 hb0 h (Fg page choice (3-level).toNat M level frame doom) (fun hn=>Jl page choice M level frame _ doom hl1 hl3 rfl hn) (fun hK hO s1 b1 wX hb1 h1=>?_);have:=(IN page choice M level frame _ doom hl1 hl3 rfl hK hO).1;omega
 | succ d ih =>
  intro s M b level frame doom w hd hok hl1 hl3 hf0 hf1 hb0 h;refine KS s M b page choice level frame doom w hok hp0 hp1 hc0 hc1 hl1 hl3 hf0 hf1 hb0 h (Fg page choice (3-level).toNat M level frame doom) (fun hn=>Jl page choice M level frame _ doom hl1 hl3 rfl hn) (fun hK hO s1 b1 wX hb1 h1=>?_);obtain⟨hlt,e⟩:=IN page choice M level frame _ doom hl1 hl3 rfl hK hO;rw[e];have hm:=(Ka page choice M level (BA M page choice level frame) doom).1;exact ih s1 _ b1 (level+1) _ doom wX (by omega) (GL hok page choice level _ doom) (by omega) (by omega) (Cp _ _).1 (by rw[hm];exact hO) hb1 h1
theorem LH(e:CI)(p:Int)(hp0:0<=p)(hp1:p<100000)(hl:e.level=2\/e.level=3)(w:World):Calls prog 91 #[.agg #[.int .i64 e.level,.int .i64 e.page,.int .i64 e.table,.bool e.doom],.int .i64 p] w fun r w'=>r=.returned (.bool (DO e p))/\Below w.heap.size w w':=by
 obtain⟨a1,a2,a3,a4⟩:=e;rcases hl with hl|hl
 ·have hl:a1=2:=hl;subst hl;exact Mo a2 a3 p a4 hp0 hp1 w
 ·have hl:a1=3:=hl;subst hl;exact N9 a2 a3 p a4 hp0 hp1 w
structure Bi where
 kind:Int
 a:Int
 b:Int
 word:Int
def CH:DL Bi:=⟨51,4,fun x=>[.int .i64 x.kind,.int .i64 x.a,.int .i64 x.b,.int .u64 x.word],⟨0,0,0,0⟩,by omega,fun _=>rfl⟩
theorem NV:(prog.info? 51).map (fun i=>(i.zero,i.size,i.bytes))=some (some (.agg #[.int .i64 0,.int .i64 0,.int .i64 0,.int .u64 0]),4,32):=by kernel_rfl
structure CM (o:Bi):Prop where
 k:-9223372036854775808<=o.kind/\o.kind<=9223372036854775807
 a:-9223372036854775808<=o.a/\o.a<=9223372036854775807
 b:-9223372036854775808<=o.b/\o.b<=9223372036854775807
 w:0<=o.word/\o.word<2 ^ 64
def Cf (M:A9) (o:Bi):Bool :=
 if o.kind=1 then decide (0<=o.a/\o.a<M.mem.length/\o.b=0/\M.pend.length<10000)
 else if o.kind=2 then decide (o.a=0/\o.b=0/\o.word=0)
 else if o.kind=3 then decide (0<=o.a/\o.a<4096/\1<=o.b/\o.a+o.b<=4096/\o.word=0)
 else if o.kind=4 then decide (0<=o.a/\o.a<BS M.mem.length/\o.b=0/\o.word=0)
 else false
def C1 (ps:List P3) (f:Int):Bool:=BW (fun i=>decide ((BQ ps i).fr=f)) ps.length
def E7 (M:A9) (pg n:Int) (i:Nat):Bool:=BM (A8 A7 M.tlb i).page (A8 A7 M.tlb i).size pg n
def De (M:A9) (lv pg n:Int) (i:Nat):Bool:=decide (lv<(A8 AJ M.wc i).level)&&BM (A8 AJ M.wc i).page (16*Ab (A8 AJ M.wc i).level) pg n
def BD (M:A9) (lv pg n:Int):Bool:=BW (E7 M pg n) M.tlb.length||BW (De M lv pg n) M.wc.length
def EY (M:A9) (ps:List P3) (f ix:Int) (i:Nat):Bool:=decide ((BQ ps i).fr=f)&&BD M (BQ ps i).lv ((BQ ps i).pg+ix*Ab (BQ ps i).lv) (Ab (BQ ps i).lv)
def Ds (M:A9) (a:Int):Int:=(AE M).getD a.toNat 0
def Ag (M:A9) (o:Bi):Int :=
 if o.word%2=0 then 0
 else if Ds M o.a%2=1 then (if Ds M o.a≠o.word/\C1 (AK (AE M)) (o.a/16)=true then 2 else 0)
 else if BW (EY M (AK (AE M)) (o.a/16) (o.a%16)) (AK (AE M)).length=true then 3 else 0
def KO (M:A9) (f:Int):Bool:=BW (fun i=>decide ((A8 AJ M.wc i).table=f)) M.wc.length
def Br (M:A9) (f:Int):Bool:=C1 (AK M.mem) f||C1 (AK (AE M)) f||KO M f
def An (a b:Int) (e:Am):Am:=⟨e.page,e.size,e.out,e.perm,e.doom||BM e.page e.size a b⟩
def B8 (a b:Int) (e:CI):CI:=⟨e.level,e.page,e.table,e.doom||BM e.page (16*Ab e.level) a b⟩
def CP (M:A9) (o:Bi):A9×Int :=
 if Cf M o=false then (M,1)
 else if o.kind=1 then (if Ag M o=0 then ⟨M.mem,M.pend++[⟨o.a,o.word⟩],M.tlb,M.wc⟩ else M,Ag M o)
 else if o.kind=2 then (⟨AE M,[],M.tlb.filter (fun e=>!e.doom),M.wc.filter (fun e=>!e.doom)⟩,0)
 else if o.kind=3 then (⟨M.mem,M.pend,M.tlb.map (An o.a o.b),M.wc.map (B8 o.a o.b)⟩,0)
 else (M,if Br M o.a then 4 else 0)
def Bm (M:A9) (o:Bi):A9×Int:=if AG M then CP M o else (zM,9)
theorem BZ(f:Nat->Bool)(n:Nat)(h:∀j,j<n->f j=false):BW f n=false:=by
 rw[BW,List.any_eq_false];intro x hx;simp[h x (List.mem_range.1 hx)]
theorem Dl(a n b m:Int):BM a n b m=BM b m a n:=by unfold BM;rw[Bool.and_comm]
theorem Gt{M:A9}(hs:M.Small)(hok:Cv M)(o:Bi):(CP M o).1.Small:=by
 have h1:=hok.p;have h2:=Ac M;unfold CP;split
 ·exact hs
 ·split
  ·dsimp only;split
   ·exact⟨hs.w,by simp;omega,hs.t,hs.c⟩
   ·exact hs
  ·split
   ·exact⟨by dsimp only;rw[h2];exact hs.w,by simp,Nat.le_trans (List.length_filter_le _ _) hs.t,Nat.le_trans (List.length_filter_le _ _) hs.c⟩
   ·split
    ·exact⟨hs.w,hs.p,by simpa using hs.t,by simpa using hs.c⟩
    ·exact hs
theorem Ig(zs:List Int)(h:BS zs.length≠0):C1 (AK zs) 0=true:=by
 have e:AK zs=Bv zs (BS zs.length) 2 ⟨0,1,0⟩:=by unfold AK;rw[if_neg h]
 rw[e];refine BF _ 0 _ (by simp[Bv,Ak]) ?_;simp[Bv,Ak,BQ]
theorem Eg{α:Type}(E:DL α){xs:List α}{i:Nat}(hi:i<xs.length):A8 E xs i∈xs:=by
 unfold A8;rw[List.getD_eq_getElem?_getD,List.getElem?_eq_getElem hi];exact List.getElem_mem hi
theorem Jc{α:Type}(E:DL α){xs:List α}{x:α}(h:x∈xs):∃i,i<xs.length/\A8 E xs i=x:=by
 obtain⟨i,hi,e⟩:=List.getElem_of_mem h;refine⟨i,hi,?_⟩;unfold A8;rw[List.getD_eq_getElem?_getD,List.getElem?_eq_getElem hi];exact e
structure VM (M:A9):Prop where
 n0:BS M.mem.length≠0
 word:∀x∈M.mem,0<=x/\x<2 ^ 64
 p:M.pend.length<=10000
 t:M.tlb.length<=256
 c:M.wc.length<=256
 pend:∀e∈M.pend,(0<=e.addr/\e.addr<M.mem.length)/\0<=e.word/\e.word<2 ^ 64
 tlb:∀e∈M.tlb,AH e=true
 wc:∀e∈M.wc,AX (BS M.mem.length) e=true
theorem VM.of{M:A9}(hk:H6 M)(hv:AG M=true):VM M:=by
 have ho:=Cv.of hk hv;refine⟨ho.n0,fun x hx=>?_,ho.p,ho.t,ho.c,fun e he=>?_,fun e he=>?_,fun e he=>?_⟩
 ·obtain⟨i,hi,rfl⟩:=List.getElem_of_mem hx;have:=ho.word i;rw[List.getD_eq_getElem?_getD,List.getElem?_eq_getElem hi] at this;exact this
 ·obtain⟨i,hi,rfl⟩:=Jc AA he;exact⟨BI hv i hi,ho.pw i⟩
 ·obtain⟨i,hi,rfl⟩:=Jc A7 he;exact CV hv i hi
 ·obtain⟨i,hi,rfl⟩:=Jc AJ he;exact Ca hv i hi
theorem VM.valid{M:A9}(h:VM M):AG M=true:=by
 have h0:=h.n0;have h1:=h.p;have h2:=h.t;have h3:=h.c;unfold AG;simp only[Bool.and_eq_true];refine⟨⟨⟨by simp[CY,h0,h1,h2,h3],?_⟩,?_⟩,?_⟩
 ·unfold C6;rw[List.all_eq_true];intro i hi;have:=h.pend _ (Eg AA (List.mem_range.1 hi));simp[D3];omega
 ·unfold CO;rw[List.all_eq_true];intro i hi;exact h.tlb _ (Eg A7 (List.mem_range.1 hi))
 ·unfold DK;rw[List.all_eq_true];intro i hi;exact h.wc _ (Eg AJ (List.mem_range.1 hi))
theorem E5{x:Int}(h0:-9223372036854775808<=x)(h1:x<=9223372036854775807):(Lit.int .i64 x).wf=true:=by
 simp only[Lit.wf,Bool.and_eq_true,decide_eq_true_eq];exact⟨h0,h1⟩
theorem NJ{x:Int}(h0:0<=x)(h1:x<2 ^ 64):(Lit.int .u64 x).wf=true:=by
 have h2:x<=18446744073709551615:=by omega
 simp only[Lit.wf,Bool.and_eq_true,decide_eq_true_eq];exact⟨h0,h2⟩
theorem VM.mok{M:A9}(h:VM M):H6 M:=by
 have l1:=BP M.mem.length h.n0;have l2:=Cd M.mem.length;have h1:=h.p;have h2:=h.t;have h3:=h.c;refine⟨by omega,by omega,by omega,by omega,fun i=>?_,fun i hi=>?_,fun i hi=>?_,fun i hi=>?_⟩
 ·rw[List.getD_eq_getElem?_getD];by_cases hi:i<M.mem.length
  ·rw[List.getElem?_eq_getElem hi];exact h.word _ (List.getElem_mem hi)
  ·rw[List.getElem?_eq_none (by omega)];exact⟨by decide,by decide⟩
 ·have:=h.pend _ (Eg AA hi);exact⟨E5 (by omega) (by omega),NJ this.2.1 this.2.2⟩
 ·have:=h.tlb _ (Eg A7 hi);simp only[AH,AP,Bool.and_eq_true,Bool.or_eq_true,decide_eq_true_eq] at this;exact⟨E5 (by omega) (by omega),E5 (by omega) (by omega),E5 (by omega) (by omega),E5 (by omega) (by omega)⟩
 ·have:=h.wc _ (Eg AJ hi);simp only[AX,AP,Bool.and_eq_true,Bool.or_eq_true,decide_eq_true_eq] at this;exact⟨E5 (by omega) (by omega),E5 (by omega) (by omega),E5 (by omega) (by omega)⟩
theorem VM.wok{M:A9}(h:VM M):Cv M:=Cv.of h.mok h.valid
theorem VM.small{M:A9}(h:VM M):M.Small:=h.wok.small
theorem LN{M:A9}(h:VM M)(e:CI)(he:AX (BS M.mem.length) e=true):VM (Aq M e):=by
 unfold Aq;split
 ·exact h
 ·rename_i hn;have hl:¬256<=M.wc.length:=by
   intro hc;apply hn;simp[hc]
  refine⟨h.n0,h.word,h.p,h.t,by simp;omega,h.pend,h.tlb,fun x hx=>?_⟩;rcases List.mem_append.1 hx with hx|hx
  ·exact h.wc x hx
  ·rw[List.mem_singleton.1 hx];exact he
theorem K3{M:A9}(h:VM M)(e:Am)(he:AH e=true):VM (Aa M e):=by
 unfold Aa;split
 ·exact h
 ·rename_i hn;have hl:¬256<=M.tlb.length:=by
   intro hc;apply hn;simp[hc]
  refine⟨h.n0,h.word,h.p,by simp;omega,h.c,h.pend,fun x hx=>?_,h.wc⟩;rcases List.mem_append.1 hx with hx|hx
  ·exact h.tlb x hx
  ·rw[List.mem_singleton.1 hx];exact he
theorem Jj(l x:Int)(h:AZ l x=2\/AZ l x=3):1<=Bq l x/\Bq l x<=7/\Bz l x%DW l x=0:=by
 have h1:=Hi l x;unfold DW;unfold Bz Bq;rw[if_neg (by omega),if_neg (by omega)];unfold AZ at h;repeat' split at h
 all_goals first|omega|skip
 all_goals (rename_i hh;unfold AZ;simp_all;try omega)
theorem KM{M:A9}(h:VM M)(page choice level x:Int)(doom:Bool)(hp0:0<=page)(hp1:page<4096):VM (DN page choice M level x doom).1:=by
 unfold DN;split
 ·exact h
 ·split
  ·rename_i hk;have h1:=Jj level x hk;have h2:=Cp level x;(have h3:DW level x=1\/DW level x=16:=by unfold DW;split<;>simp);show VM (if BT choice 6=true then _ else _);split
   ·refine K3 h _ ?_;generalize DW level x=z at *;simp only[AH,AP,Bool.and_eq_true,Bool.or_eq_true,decide_eq_true_eq];rcases h3 with rfl|rfl<;>omega
   ·exact h
  ·exact h
theorem Lv{M:A9}(h:VM M)(page choice level x:Int)(doom:Bool)(hp0:0<=page)(hp1:page<4096)(hl0:1<=level)(hl1:level<=2)(hx:GI M level x=true):VM (CE page choice M level x doom):=by
 unfold CE;split
 ·refine LN h _ ?_;have h2:=Cp level x;unfold GI at hx;simp only[Bool.and_eq_true,decide_eq_true_eq] at hx;simp only[AX,AP,Bool.and_eq_true,Bool.or_eq_true,decide_eq_true_eq];have h3:level+1-1=level:=by omega
  rw[h3];unfold Ab;rcases(by omega:level=1\/level=2) with rfl|rfl
  ·simp;omega
  ·simp;omega
 ·exact h
theorem MI(page choice:Int)(hp0:0<=page)(hp1:page<4096):∀(d:Nat) {M:A9},VM M->∀(level frame:Int) (doom:Bool),1<=level->level+d<=3->VM (Fg page choice d M level frame doom).1
 | 0,M,h,level,frame,doom,_,_=>KM h _ _ _ _ _ hp0 hp1
 | d+1,M,h,level,frame,doom,h0,h1=>by
  unfold Fg;split
  ·rename_i hx;exact MI page choice hp0 hp1 d (Lv h _ _ _ _ _ hp0 hp1 h0 (by omega) hx) _ _ _ (by omega) (by omega)
  ·exact KM h _ _ _ _ _ hp0 hp1
theorem JE{M:A9}(h:VM M)(page choice:Int)(hp0:0<=page)(hp1:page<4096):VM (Ah M page choice).1:=by
 have hs:=Dd h.valid page choice;exact MI page choice hp0 hp1 _ h _ _ _ hs.1 (by omega)
theorem Mw{M:A9}(h:VM M)(page choice:Int)(hp0:0<=page)(hp1:page<4096):VM (Cw M page choice):=by
 unfold Cw;split
 ·exact h
 ·exact JE h page choice hp0 hp1
theorem Dh{α:Type}(E:DL α)(c:Bool)(i:Int)(xs:List α):∀k,k<=xs.length->∀x∈AI E c i xs k,x∈xs
 | 0,_,x,h=>by simp[AI] at h
 | k+1,hk,x,h=>by
  unfold AI at h;split at h
  ·exact Dh E c i xs k (by omega) x h
  ·rcases List.mem_append.1 h with h|h
   ·exact Dh E c i xs k (by omega) x h
   ·rw[List.mem_singleton.1 h];exact Eg E (by omega)
theorem MS{M:A9}(h:VM M)(c:Bool)(i:Int):VM ⟨M.mem,M.pend,AI A7 c i M.tlb M.tlb.length,M.wc⟩ :=
 ⟨h.n0,h.word,h.p,Nat.le_trans (DG _ _ _ _ _) h.t,h.c,h.pend,fun e he=>h.tlb e (Dh _ _ _ _ _ (Nat.le_refl _) e he),h.wc⟩
theorem Ly{M:A9}(h:VM M)(c:Bool)(i:Int):VM ⟨M.mem,M.pend,M.tlb,AI AJ c i M.wc M.wc.length⟩ :=
 ⟨h.n0,h.word,h.p,h.t,Nat.le_trans (DG _ _ _ _ _) h.c,h.pend,h.tlb,fun e he=>h.wc e (Dh _ _ _ _ _ (Nat.le_refl _) e he)⟩
theorem Ko{M:A9}(h:VM M):∀x∈AE M,0<=x/\x<2 ^ 64:=by
 have key:∀(ps:List BJ) (zs:List Int),(∀e∈ps,0<=e.word/\e.word<2 ^ 64)->(∀x∈zs,0<=x/\x<2 ^ 64)->∀x∈ps.foldl (fun z e=>z.set e.addr.toNat e.word) zs,0<=x/\x<2 ^ 64:=by
  intro ps;induction ps with
  | nil=>intro zs _ hz;exact hz
  | cons e r ih =>
   intro zs he hz;refine ih _ (fun e' h'=>he e' (List.mem_cons_of_mem _ h')) (fun x hx=>?_);rcases List.mem_or_eq_of_mem_set hx with hx|rfl
   ·exact hz x hx
   ·exact he e List.mem_cons_self
 exact key M.pend M.mem (fun e he=>(h.pend e he).2) h.word
theorem NU{M:A9}(h:VM M)(o:Bi)(ho:CM o):VM (CP M o).1:=by
 have h1:=h.p;have h2:=Ac M;unfold CP;split
 ·exact h
 ·rename_i hb;split
  ·rename_i hk;dsimp only;split
   ·unfold Cf at hb;rw[if_pos hk] at hb;simp only[Bool.not_eq_false,decide_eq_true_eq] at hb;refine⟨h.n0,h.word,by simp;omega,h.t,h.c,fun e he=>?_,h.tlb,h.wc⟩;rcases List.mem_append.1 he with he|he
    ·exact h.pend e he
    ·rw[List.mem_singleton.1 he];exact⟨⟨hb.1,hb.2.1⟩,ho.w⟩
   ·exact h
  ·split
   ·refine⟨by dsimp only;rw[h2];exact h.n0,Ko h,by simp,Nat.le_trans (List.length_filter_le _ _) h.t,Nat.le_trans (List.length_filter_le _ _) h.c,fun e he=>by simp at he,fun e he=>h.tlb e (List.mem_filter.1 he).1,fun e he=>?_⟩;dsimp only;rw[h2];exact h.wc e (List.mem_filter.1 he).1
   ·split
    ·refine⟨h.n0,h.word,h.p,by simpa using h.t,by simpa using h.c,h.pend,fun e he=>?_,fun e he=>?_⟩
     ·obtain⟨x,hx,rfl⟩:=List.mem_map.1 he;exact h.tlb x hx
     ·obtain⟨x,hx,rfl⟩:=List.mem_map.1 he;exact h.wc x hx
    ·exact h
end Go.Proofs.YtnmhkgmmpkjjeabGreat
