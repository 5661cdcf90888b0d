import Derived.Test.YtnmhkgmmpkjjeaaGreatM23
namespace Go.Proofs.YtnmhkgmmpkjjeaaGreat
open ChangeShapes WideShapes ChangeAt RowKit Proofs.Tryz
set_option linter.all false
set_option maxRecDepth 100000
set_option maxHeartbeats 8000000
attribute [local go_sem ↓] wp_at_zero wp_at_succ
def Zh (zs:List Int) (e:En):Prop:=∃lv pg ad:Nat,e=⟨lv,pg,ad⟩/\1<=lv/\lv<=3/\pg+Ay lv<=4096/\ad<zs.length
structure K7 (V C:Nat) (zs:List Int) (H:Nat->Ht) (all:List P3) (wp:World) (Inv:(Nat->Prop)->List En->World->Prop):Prop where
 run:∀(a b:Value) (w:World),(callFunc V #[a,b]).run prog w=.ok (.enter V #[a,b]) w
 visit:∀S es e wX,Inv S es wX->Zh zs e->es.length<=100000->Calls prog V #[GZ zs H all e.lv e.pg e.ad,.pointer (some ⟨C,0,none⟩)] wX fun r w'=>r=.returned (.tuple #[])/\∃S',Inv S' (es++[e]) w'/\BF S wX w'/\(∀k,k<wX.heap.size->S' k->S k)
 below:∀S es wX wY,Inv S es wX->Bl wX wY->Inv S es wY
 pl:∀S es wX,Inv S es wX->Bl wp wX
 lt:∀S es wX,Inv S es wX->∀k,S k->k<wX.heap.size
def Fb (Inv:(Nat->Prop)->List En->World->Prop) (S:Nat->Prop) (es:List En) (w:World) (r:Ending) (w':World):Prop :=
 r=.returned (.tuple #[])/\∃S',Inv S' es w'/\BF S w w'/\(∀k,k<w.heap.size->S' k->S k)
def Jo (kept:List P3) (f:Nat) (t:P3) (i:Nat):List En:=CA t i :: (if 0<=(DP kept t i).fr then Lc kept f (DP kept t i) else [])
def E7 (kept:List P3) (f:Nat) (t:P3) (n:Nat):List En:=(List.range n).flatMap (Jo kept f t)
theorem IW(kept:List P3)(f:Nat)(t:P3)(n:Nat):E7 kept f t (n+1)=E7 kept f t n++Jo kept f t n:=by
 unfold E7;rw[List.range_succ,List.flatMap_append];simp
theorem Wq(kept:List P3)(f:Nat)(t:P3):Lc kept (f+1) t=E7 kept f t 16:=rfl
def GY:Nat->Nat
 | 0=>0
 | f+1=>16*(1+GY f)
theorem Ra(kept:List P3):∀(f:Nat) (t:P3),(Lc kept f t).length<=GY f
 | 0,t=>Nat.le_refl _
 | f+1,t=>by
  have h:∀n,(E7 kept f t n).length<=n*(1+GY f):=by
   intro n;induction n with
   | zero=>exact Nat.zero_le _
   | succ n ih =>
    rw[IW,List.length_append,Nat.add_mul,Nat.one_mul];have:(Jo kept f t n).length<=1+GY f:=by
     unfold Jo;rw[List.length_cons];split
     ·have:=Ra kept f (DP kept t n);omega
     ·simp
    omega
  exact h 16
theorem Mn(kept:List P3)(f:Nat)(t:P3):∀n,(E7 kept f t n).length<=n*(1+GY f)
 | 0=>Nat.zero_le _
 | n+1=>by
  have ih:=Mn kept f t n;rw[IW,List.length_append,Nat.add_mul,Nat.one_mul];have:(Jo kept f t n).length<=1+GY f:=by
   unfold Jo;rw[List.length_cons];split
   ·have:=Ra kept f (DP kept t n);omega
   ·simp
  omega
theorem Sg{kept fs:List P3}{lv pg:Int}(h0:∀q∈kept,0<=q.fr):∃a,Ft (BZ kept fs) lv pg=hV a (decide (0<=AI kept lv pg))/\(0<=AI kept lv pg->a=AI kept lv pg):=by
 by_cases h:0<=AI kept lv pg
 ·refine⟨AI kept lv pg,?_,fun _=>rfl⟩;unfold Ft;rw[SD h,decide_eq_true h]
 ·rw[decide_eq_false h];unfold Ft;cases hg:FX (BZ kept fs) lv pg with
  | none=>exact⟨0,rfl,fun hh=>absurd hh h⟩
  | some x =>
   have:=Yh h0 (Int.not_le.1 h) x hg;exact⟨x.fr,by dsimp only;rw[this],fun hh=>absurd hh h⟩
theorem IH(V C gp gz cz gl B:Nat)(zs:List Int)(H:Nat->Ht)(kept fs:List P3)(wp:World)(Inv:(Nat->Prop)->List En->World->Prop)(hI:K7 V C zs H (kept++fs) wp Inv)(hP:Io wp gp gz cz gl B zs H (BZ kept fs))(hO:Wu zs H kept fs)(hzl:zs.length<=1048576)(f lv p fr:Nat)(h1:1<=lv)(h3:lv<=3)(hp:p+Ga lv<=4096)(hfr:fr*16+16<=zs.length)(hrec:∀(i:Nat) (S:Nat->Prop) (es:List En) wX,es.length+GY f<=100000->i<16->0<=AI kept ((lv:Int)+1) (p+i*Ay lv:Nat)->Inv S es wX->Calls prog 226 #[.pointer (some ⟨gp,0,none⟩),.agg #[.int .i64 (AI kept ((lv:Int)+1) (p+i*Ay lv:Nat)),.int .i64 ((lv:Int)+1),.int .i64 (p+i*Ay lv:Nat)],.func (.func V) #[] #[.pointer (some ⟨C,0,none⟩)]] wX (Fb Inv S (es++Lc kept f ⟨AI kept ((lv:Int)+1) (p+i*Ay lv:Nat),(lv:Int)+1,(p+i*Ay lv:Nat)⟩) wX)):∀(S:Nat->Prop) (es:List En) w,es.length+GY (f+1)<=100000->Inv S es w->Calls prog 226 #[.pointer (some ⟨gp,0,none⟩),.agg #[.int .i64 fr,.int .i64 lv,.int .i64 p],.func (.func V) #[] #[.pointer (some ⟨C,0,none⟩)]] w (Fb Inv S (es++Lc kept (f+1) ⟨fr,lv,p⟩) w):=by
 intro S es w hes hw;have HLB:Hid (∀i,i<16->(es++E7 kept f ⟨fr,lv,p⟩ i).length+(1+GY f)<=100000):=fun i hi=>by
  have h1:=Mn kept f ⟨fr,lv,p⟩ i;have h2:(i+1)*(1+GY f)<=16*(1+GY f):=Nat.mul_le_mul_right _ (by omega);have h3:GY (f+1)=16*(1+GY f):=rfl;rw[h3] at hes;rw[Nat.add_mul,Nat.one_mul] at h2;rw[List.length_append];omega
 rw[Wq];unfold Fb;obtain⟨wb,hwb⟩:∃wb,wb=(w.alloc (.cells #[.int .i64 fr,.int .i64 lv,.int .i64 p] 67)).alloc (.cells #[.int .i64 lv,.int .i64 p] 223):=⟨_,rfl⟩
 have hbb:Bl w wb:=by rw[hwb];exact AO.alloc (by simp) _
 have hzb:wb.heap.size=w.heap.size+2:=by rw[hwb];simp
 have q0:wb.cell? ⟨w.heap.size,0,none⟩=some (.int .i64 fr):=by rw[hwb];simp[go_sem]
 have q1:wb.cell? ⟨w.heap.size,1,none⟩=some (.int .i64 lv):=by rw[hwb];simp[go_sem]
 have q2:wb.cell? ⟨w.heap.size,2,none⟩=some (.int .i64 p):=by rw[hwb];simp[go_sem]
 have s0:wb.cell? ⟨w.heap.size+1,0,none⟩=some (.int .i64 lv):=by rw[hwb];simp[go_sem]
 have s1:wb.cell? ⟨w.heap.size+1,1,none⟩=some (.int .i64 p):=by rw[hwb];simp[go_sem]
 have HQ:Hid (∀wX:World,wX.heap[w.heap.size]?=wb.heap[w.heap.size]?->wX.heap[w.heap.size+1]?=wb.heap[w.heap.size+1]?->(wX.cell? ⟨w.heap.size,0,none⟩=some (.int .i64 fr)/\wX.cell? ⟨w.heap.size,1,none⟩=some (.int .i64 lv)/\wX.cell? ⟨w.heap.size,2,none⟩=some (.int .i64 p))/\(wX.cell? ⟨w.heap.size+1,0,none⟩=some (.int .i64 lv)/\wX.cell? ⟨w.heap.size+1,1,none⟩=some (.int .i64 p))):=fun wX e1 e2=>⟨⟨(F2 e1).trans q0,(F2 e1).trans q1,(F2 e1).trans q2⟩,(F2 e2).trans s0,(F2 e2).trans s1⟩
 have HST:Hid (Inv S (es++E7 kept f ⟨fr,lv,p⟩ 0) wb/\BF S w wb/\¬S w.heap.size/\¬S (w.heap.size+1)):=A9 <| by
  have e0:E7 kept f ⟨fr,lv,p⟩ 0=[]:=rfl;rw[e0,List.append_nil];exact⟨hI.below S es w wb hw hbb,BF.of_below hbb,fun h=>by have:=hI.lt S es w hw _ h;omega,fun h=>by have:=hI.lt S es w hw _ h;omega⟩
 have HVI:=A5 hI;have HPS:Hid (∀S es wX,Inv S es wX->Io wX gp gz cz gl B zs H (BZ kept fs)):=fun S es wX h=>hP.below (hI.pl S es wX h)
 have HEN:Hid (∀(i:Nat) wX,i<16->Io wX gp gz cz gl B zs H (BZ kept fs)->Calls prog 193 #[.pointer (some ⟨gp,0,none⟩),.agg #[.int .i64 fr,.int .i64 lv,.int .i64 p],.int .i64 i] wX (AM wX (GZ zs H (kept++fs) lv (p+i*Ay lv:Nat) (fr*16+i:Nat)))):=fun i wX hi hX=>Jx gp gz cz gl B zs H kept fs fr lv p i wX hzl h1 h3 hi hp hfr hO hX
 have HREC:=A5 hrec;have HX:Hid (∀i:Nat,i<16->p+i*Ay lv+Ay lv<=4096/\Zh zs (CA ⟨fr,lv,p⟩ i)/\CA ⟨fr,lv,p⟩ i=⟨lv,(p+i*Ay lv:Nat),(fr*16+i:Nat)⟩/\DP kept ⟨fr,lv,p⟩ i=⟨AI kept ((lv:Int)+1) (p+i*Ay lv:Nat),(lv:Int)+1,(p+i*Ay lv:Nat)⟩):=fun i hi=>by
  have hm:p+i*Ay lv+Ay lv<=4096:=by
   have h16:Ga lv=16*Ay lv:=by
    rcases(show lv=1\/lv=2\/lv=3 by omega) with rfl|rfl|rfl<;>rfl
   have:i*Ay lv<=15*Ay lv:=Nat.mul_le_mul_right _ (by omega);omega
  have ec:=Cx lv;have e1:(p:Int)+(i:Int)*BX (lv:Int)=((p+i*Ay lv:Nat):Int):=by rw[ec];simp
  have e2:CA ⟨fr,lv,p⟩ i=⟨lv,(p+i*Ay lv:Nat),(fr*16+i:Nat)⟩:=by
   unfold CA;dsimp only;rw[e1];simp
  refine⟨hm,⟨lv,p+i*Ay lv,fr*16+i,e2,h1,h3,by omega,by omega⟩,e2,?_⟩;unfold DP;dsimp only;rw[e1]
 have HK0:Hid (∀q∈kept,0<=q.fr):=fun q hq=>hO.fr q (List.mem_append_left _ hq)
 have HSB:Hid (∀(i:Nat) wX,i<16->Calls prog 180 #[.agg #[.int .i64 lv,.int .i64 p],.int .i64 i] wX (AM wX (.agg #[.int .i64 ((lv:Int)+1),.int .i64 (p+i*Ay lv:Nat)]))):=fun i wX hi=>by
  have:=I7 lv p i (by omega) (by omega) (by omega) (by omega) (by omega) (by omega) wX;have e1:(p:Int)+(i:Int)*BX (lv:Int)=((p+i*Ay lv:Nat):Int):=by rw[Cx lv];simp
  rw[e1] at this;exact this
 have HWB:=A5 hwb;have HZB:=A5 hzb;clear hw hI hP hO hrec hwb hbb hzb q0 q1 q2 s0 s1 hp hfr;go_enter func226,ntmps226
 go_wp2_with fail
 rw[<- HWB.out];go_loopw [15] (fun iv wr=>∃i:Nat,i<=16/\iv=.int .i64 i/\∃S':Nat->Prop,Inv S' (es++E7 kept f ⟨fr,lv,p⟩ i) wr/\BF S w wr/\(∀k,k<w.heap.size->S' k->S k)/\wr.heap[w.heap.size]?=wb.heap[w.heap.size]?/\wr.heap[w.heap.size+1]?=wb.heap[w.heap.size+1]?/\w.heap.size+2<=wr.heap.size/\¬S' w.heap.size/\¬S' (w.heap.size+1)) (fun iv _=>16-(intOf iv).toNat)
 case atStart=>exact⟨0,Nat.zero_le _,rfl,S,HST.out.1,HST.out.2.1,fun k _ h=>h,rfl,rfl,by have:=HZB.out;omega,HST.out.2.2⟩
 case round =>
  obtain⟨i,hi,rfl,S1,hinv,htch,hS1,hz1,hz2,hz3,hn1,hn2⟩:=hrel;by_cases hlt:i<16
  ·obtain⟨hpg,heok,hen,hund⟩:=HX.out i hlt;have hent:=HEN.out i wr hlt (HPS.out _ _ _ hinv);obtain⟨⟨q0,q1,q2⟩,s0,s1⟩:=HQ.out wr hz1 hz2;have HSTEP:Hid (E7 kept f ⟨fr,lv,p⟩ (i+1)=E7 kept f ⟨fr,lv,p⟩ i++(CA ⟨fr,lv,p⟩ i :: (if 0<=(DP kept ⟨fr,lv,p⟩ i).fr then Lc kept f (DP kept ⟨fr,lv,p⟩ i) else []))):=IW kept f _ i;have HVIS:Hid (∀wX,Bl wr wX->Calls prog V #[GZ zs H (kept++fs) lv (p+i*Ay lv:Nat) (fr*16+i:Nat),.pointer (some ⟨C,0,none⟩)] wX (Fb Inv S1 ((es++E7 kept f ⟨fr,lv,p⟩ i)++[CA ⟨fr,lv,p⟩ i]) wX)):=fun wX hX=>by
    have:=HVI.out.visit S1 _ (CA ⟨fr,lv,p⟩ i) wX (HVI.out.below _ _ _ _ hinv hX) heok (by have:=HLB.out i hlt;omega);rw[hen] at this ⊢;exact this
   have HSB1:Hid _:=HSB.out i;(have HR1:Hid (∀(S:Nat->Prop) (es:List En) wX,es.length+GY f<=100000->0<=AI kept ((lv:Int)+1) (p+i*Ay lv:Nat)->Inv S es wX->_):=fun S es wX hl h=>HREC.out i S es wX hl hlt h);rw[hund] at HSTEP;dsimp only at HSTEP;(obtain⟨X,hX⟩:∃X,p+i*Ay lv=X:=⟨_,rfl⟩);(obtain⟨AD,hAD⟩:∃AD,fr*16+i=AD:=⟨_,rfl⟩);rw[hX] at hent HSTEP HVIS hpg hund;rw[hAD] at hent HVIS;have HSB2:Hid (∀wX,Calls prog 180 #[.agg #[.int .i64 lv,.int .i64 p],.int .i64 i] wX (AM wX (.agg #[.int .i64 ((lv:Int)+1),.int .i64 X]))):=fun wX=>by
    have:=HSB1.out wX hlt;rw[hX] at this;exact this
   have HR2:Hid (∀(S:Nat->Prop) (es:List En) wX,es.length+GY f<=100000->0<=AI kept ((lv:Int)+1) X->Inv S es wX->Calls prog 226 #[.pointer (some ⟨gp,0,none⟩),.agg #[.int .i64 (AI kept ((lv:Int)+1) X),.int .i64 ((lv:Int)+1),.int .i64 X],.func (.func V) #[] #[.pointer (some ⟨C,0,none⟩)]] wX (Fb Inv S (es++Lc kept f ⟨AI kept ((lv:Int)+1) X,(lv:Int)+1,X⟩) wX)):=fun S es wX hl h1 h2=>by
    have:=HR1.out S es wX hl (by rw[hX];exact h1) h2;rw[hX] at this;exact this
   generalize GZ zs H (kept++fs) lv X AD=EV at hent HVIS;generalize CA ⟨fr,lv,p⟩ i=EE at HSTEP HVIS heok hen;obtain⟨la,hlook,hla⟩:=Sg (kept:=kept) (fs:=fs) (lv:=(lv:Int)+1) (pg:=X) HK0.out;have HLA:=A5 hla;(obtain⟨kb,hkb⟩:∃kb,decide (0<=AI kept ((lv:Int)+1) X)=kb:=⟨_,rfl⟩);have HKB:=A5 hkb;rw[hkb] at hlook;have HLK:Hid (∀wX,Io wX gp gz cz gl B zs H (BZ kept fs)->(Instr.lookup 158 (.map (some B)) (kV ((lv:Int)+1) X) false).run prog wX=.ok (.agg #[.int .i64 la,.bool kb]) wX):=fun wX h=>by
    have:=Gk B (BZ kept fs) ((lv:Int)+1) X false wX h.map;rw[hlook] at this;exact this
   have HTCH:=A5 htch;have HS1:=A5 hS1;have HZ1:Hid (wr.heap[w.heap.size]?=wb.heap[w.heap.size]?/\wr.heap[w.heap.size+1]?=wb.heap[w.heap.size+1]?):=⟨hz1,hz2⟩;have HNS:Hid (¬S1 w.heap.size/\¬S1 (w.heap.size+1)):=⟨hn1,hn2⟩;clear HSB1 HR1 hX hAD hund hla hlook hkb hinv htch hS1 hz1 hz2 hn1 hn2 heok hen;(go_wp2_with fail);refine hent.mono ?_;rintro e w1 ⟨rfl,hb1⟩;have hvis:=HVIS.out w1 hb1;have HB1:=A5 hb1;clear hent hb1;(go_wp2_with fail);rw[HVI.out.run,Oper.upon_enter];refine hvis.mono ?_;rintro e w2 ⟨rfl,S2,hinv2,htc2,hs2⟩;have hw1:w.heap.size+2<=w1.heap.size:=Nat.le_trans hz3 HB1.out.size;have bz1:w2.heap[w.heap.size]?=wb.heap[w.heap.size]?:=(htc2.block _ (by omega) HNS.out.1).trans ((HB1.out.block _ (by omega)).trans HZ1.out.1);have bz2:w2.heap[w.heap.size+1]?=wb.heap[w.heap.size+1]?:=(htc2.block _ (by omega) HNS.out.2).trans ((HB1.out.block _ (by omega)).trans HZ1.out.2);have HZ2:Hid (w2.heap[w.heap.size]?=wb.heap[w.heap.size]?/\w2.heap[w.heap.size+1]?=wb.heap[w.heap.size+1]?):=⟨bz1,bz2⟩;have HNS2:Hid (¬S2 w.heap.size/\¬S2 (w.heap.size+1)):=⟨fun h=>HNS.out.1 (hs2 _ (by omega) h),fun h=>HNS.out.2 (hs2 _ (by omega) h)⟩;have HT2:Hid (BF S w w2):=(HTCH.out.then (BF.of_below (S:=fun _=>False) HB1.out) (fun k _ h=>h.elim)).then htc2 (fun k hk h=>HS1.out k hk h);(have HS2:Hid (∀k,k<w.heap.size->S2 k->S k):=fun k hk h=>HS1.out k hk (hs2 k (by omega) h));have HI2:=A5 hinv2;have hw2:w.heap.size+2<=w2.heap.size:=Nat.le_trans hw1 htc2.size;obtain⟨_,s0,s1⟩:=HQ.out w2 bz1 bz2;have hsb:=HSB2.out w2;clear hvis hinv2 htc2 hs2 bz1 bz2 q0 q1 q2;(go_wp2_with fail);refine hsb.mono ?_;rintro e w3 ⟨rfl,hb3⟩;(obtain⟨w4,hw4⟩:∃w4,w4=w3.alloc (.cells #[.int .i64 ((lv:Int)+1),.int .i64 X] 223):=⟨_,rfl⟩);(have hb4:Bl w3 w4:=by rw[hw4];exact AO);have hb24:Bl w2 w4:=Ab hb3 hb4;(have r0:w4.cell? ⟨w3.heap.size,0,none⟩=some (.int .i64 ((lv:Int)+1)):=by rw[hw4];simp[go_sem]);(have r1:w4.cell? ⟨w3.heap.size,1,none⟩=some (.int .i64 X):=by rw[hw4];simp[go_sem]);(have N4:w3.heap.size<w4.heap.size:=by rw[hw4];simp);have hp4:=HPS.out _ _ _ (HVI.out.below _ _ _ _ HI2.out hb24);have HW4:=A5 hw4;have HB24:=A5 hb24;(have HL4:Hid (∀wX,Bl w4 wX->wX.cell? ⟨gp,2,none⟩=some (.map (some B))/\wX.cell? ⟨w3.heap.size,0,none⟩=some (.int .i64 ((lv:Int)+1))/\wX.cell? ⟨w3.heap.size,1,none⟩=some (.int .i64 X)/\(Instr.lookup 158 (.map (some B)) (kV ((lv:Int)+1) X) false).run prog wX=.ok (.agg #[.int .i64 la,.bool kb]) wX):=fun wX hX=>⟨(hX.cell (p:=⟨gp,2,none⟩) hp4.lt).trans hp4.c2,(hX.cell (p:=⟨w3.heap.size,0,none⟩) N4).trans r0,(hX.cell (p:=⟨w3.heap.size,1,none⟩) N4).trans r1,HLK.out wX (hp4.below hX)⟩);clear hsb hb3 hb4 hb24 hp4 hw4 r0 r1;(go_wp2_with fail);rw[<- HW4.out];refine wp_region_held_drew (S:=fun wX:World=>wX.cell? ⟨gp,2,none⟩=some (.map (some B))/\wX.cell? ⟨w3.heap.size,0,none⟩=some (.int .i64 ((lv:Int)+1))/\wX.cell? ⟨w3.heap.size,1,none⟩=some (.int .i64 X)/\(Instr.lookup 158 (.map (some B)) (kV ((lv:Int)+1) X) false).run prog wX=.ok (.agg #[.int .i64 la,.bool kb]) wX) (by kernel_rfl) (HL4.out _ AH.drew) (fun hHeld=>?_);refine tk 0 ?_;refine tk 1 ?_;refine tk 2 ?_;refine tk 3 ?_;refine tk 4 ?_;refine tk 5 ?_;(refine Aj 6 fun K hK=>?_);go_simp;refine hK.out _ _ (HL4.out _ (AO.drew)) (fun hHeld2=>?_);clear hK K;(refine Aj 7 fun K hK=>?_);go_simp;refine hK.out _ _ (HL4.out _ (AO.drew)) (fun hHeld3=>?_);clear hK K;refine AZ ?_;clear hHeld hHeld2 hHeld3;(obtain⟨w5,hw5⟩:∃w5,w5=w4.alloc (.cells #[.int .i64 la,.bool kb] 227):=⟨_,rfl⟩);rw[<- hw5];(have hb5:Bl w4 w5:=by rw[hw5];exact AO);(have t0:w5.cell? ⟨w4.heap.size,0,none⟩=some (.int .i64 la):=by rw[hw5];simp[go_sem]);(have t1:w5.cell? ⟨w4.heap.size,1,none⟩=some (.bool kb):=by rw[hw5];simp[go_sem]);obtain⟨_,r0,r1,_⟩:=HL4.out w5 hb5;have HB25:Hid (Bl w2 w5.drew):=A9 <| (Ab HB24.out hb5).drew;have HI5:Hid (Inv S2 ((es++E7 kept f ⟨fr,lv,p⟩ i)++[EE]) w5.drew):=HVI.out.below _ _ _ _ HI2.out HB25.out;clear hw5 hb5 HL4;cases kb
   ·have HF0:Hid (¬0<=AI kept ((lv:Int)+1) X):=A9 <| of_decide_eq_false HKB.out;(have HE1:Hid (es++E7 kept f ⟨fr,lv,p⟩ (i+1)=(es++E7 kept f ⟨fr,lv,p⟩ i)++[EE]):=A9 <| by rw[HSTEP.out,if_neg HF0.out,List.append_assoc]);clear HSTEP;(go_wp2_with fail);go_roundw;case rel =>
     refine⟨i+1,by omega,by go_num,S2,by rw[HE1.out];exact HI5.out,HT2.out.then (BF.of_below (S:=fun _=>False) HB25.out) (fun k _ h=>h.elim),HS2.out,(HB25.out.block _ (by omega)).trans HZ2.out.1,(HB25.out.block _ (by omega)).trans HZ2.out.2,Nat.le_trans hw2 HB25.out.size,HNS2.out.1,HNS2.out.2⟩
    case measure=>simp[intOf];omega
   ·have hF0:0<=AI kept ((lv:Int)+1) X:=of_decide_eq_true HKB.out;(have HE1:Hid (es++E7 kept f ⟨fr,lv,p⟩ (i+1)=((es++E7 kept f ⟨fr,lv,p⟩ i)++[EE])++Lc kept f ⟨AI kept ((lv:Int)+1) X,(lv:Int)+1,X⟩):=A9 <| by rw[HSTEP.out,if_pos hF0,List.append_assoc,List.append_assoc];rfl);have hla:=HLA.out hF0;have hrec:=HR2.out S2 _ w5.drew (by have:=HLB.out i hlt;rw[List.length_append,List.length_singleton];omega) hF0 HI5.out;generalize Lc kept f ⟨AI kept ((lv:Int)+1) X,(lv:Int)+1,X⟩=EL at HE1 hrec;rw[<- hla] at hrec;clear HSTEP HR2 hla hF0 HLA HKB HLK;(go_wp2_with fail);refine hrec.mono ?_;rintro e w6 ⟨rfl,S6,hinv6,htc6,hs6⟩;clear hrec;(go_wp2_with fail);go_roundw;case rel =>
     have hw5:w.heap.size+2<=w5.drew.heap.size:=Nat.le_trans hw2 HB25.out.size;refine⟨i+1,by omega,by go_num,S6,by rw[HE1.out];exact hinv6,(HT2.out.then (BF.of_below (S:=fun _=>False) HB25.out) (fun k _ h=>h.elim)).then htc6 (fun k hk h=>HS2.out k hk h),fun k hk h=>HS2.out k hk (hs6 k (by omega) h),(htc6.block _ (by omega) HNS2.out.1).trans ((HB25.out.block _ (by omega)).trans HZ2.out.1),(htc6.block _ (by omega) HNS2.out.2).trans ((HB25.out.block _ (by omega)).trans HZ2.out.2),Nat.le_trans hw5 htc6.size,fun h=>HNS2.out.1 (hs6 _ (by omega) h),fun h=>HNS2.out.2 (hs6 _ (by omega) h)⟩
    case measure=>simp[intOf];omega
  ·(have ei:i=16:=by omega);subst ei;(go_wp2_with fail);refine bodyPost_end (v:=.tuple #[]) (by simp[results,results226,go_sem]) rfl ?_;exact⟨rfl,S1,hinv,htch,hS1⟩
end Go.Proofs.YtnmhkgmmpkjjeaaGreat
