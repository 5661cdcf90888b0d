import Derived.Test.YtnmhkgmmpkjjeabGreatE04
import Derived.Test.YtnmhkgmmpkjjeabGreatE05
namespace Go.Proofs.YtnmhkgmmpkjjeabGreat
open ChangeShapes WideShapes ChangeAt RowKit Proofs.Tryz
set_option linter.all false
set_option maxRecDepth 100000
set_option maxHeartbeats 4000000
section
attribute [local go_sem ↓] wp_at_zero wp_at_succ
structure A9 where
 mem:List Int
 pend:List BJ
 tlb:List Am
 wc:List CI
structure MV where
 w:Value
 p:Value
 t:Value
 c:Value
def MV.agg (m:MV):Value:=.agg #[m.w,m.p,m.t,m.c]
def MV.owns (m:MV) (k:Nat):Prop:=m.w.ownBlock=some k\/m.p.ownBlock=some k\/m.t.ownBlock=some k\/m.c.ownBlock=some k
def MV.apart (m:MV):Prop:=∀k,(m.w.ownBlock=some k->m.p.ownBlock≠some k/\m.t.ownBlock≠some k/\m.c.ownBlock≠some k)/\(m.p.ownBlock=some k->m.t.ownBlock≠some k/\m.c.ownBlock≠some k)/\(m.t.ownBlock=some k->m.c.ownBlock≠some k)
structure AB (W:World) (base:Nat) (m:MV) (M:A9):Prop where
 w:A6 AO W base m.w M.mem
 p:A6 AA W base m.p M.pend
 t:A6 A7 W base m.t M.tlb
 c:A6 AJ W base m.c M.wc
structure Ew (W:World) (m:MV) (M:A9):Prop where
 w:Ng W m.w M.mem
 p:EX AA W m.p M.pend
 t:EX A7 W m.t M.tlb
 c:EX AJ W m.c M.wc
structure FY (W:World) (m:MV) (M:A9) (s:Int):Prop where
 w:Bu AO W m.w M.mem.length (CL s)
 p:Bu AA W m.p M.pend.length (CU (s+M.mem.length))
 t:Bu A7 W m.t M.tlb.length (Ce (s+M.mem.length+M.pend.length*2))
 c:Bu AJ W m.c M.wc.length (Dq (s+M.mem.length+M.pend.length*2+M.tlb.length*5))
structure A9.Small (M:A9):Prop where
 w:M.mem.length<=1048576
 p:M.pend.length<=1048576
 t:M.tlb.length<=1048576
 c:M.wc.length<=1048576
structure A5 (S:Nat->Prop) (w w':World):Prop where
 os:w'.os=w.os
 tape:w'.tape=w.tape
 output:w'.output=w.output
 size:w.heap.size<=w'.heap.size
 block:∀k,k<w.heap.size->¬S k->w'.heap[k]?=w.heap[k]?
theorem A5.trans{S:Nat->Prop}{a b c:World}(h:A5 S a b)(k:A5 S b c):A5 S a c :=
 ⟨k.os.trans h.os,k.tape.trans h.tape,k.output.trans h.output,Nat.le_trans h.size k.size,fun i hi hn=>(k.block i (Nat.lt_of_lt_of_le hi h.size) hn).trans (h.block i hi hn)⟩
theorem A5.of_below{S:Nat->Prop}{a b:World}(h:Below a.heap.size a b):A5 S a b:=⟨h.os,h.tape,h.output,h.size,fun i hi _=>h.block i hi⟩
theorem A5.of_grown{S:Nat->Prop}{a b:World}{row:Option Nat}(h:a.grownBy b row)(hS:∀k,row=some k->S k):A5 S a b :=
 ⟨h.os,h.tape,h.output,h.size,fun i hi hn=>h.block i hi (fun e=>hn (hS i e.symm))⟩
theorem A5.below{S:Nat->Prop}{B:Nat}{w a b:World}(h:Below B w a)(k:A5 S a b)(hB:B<=a.heap.size)(hS:∀k,S k->B<=k):Below B w b :=
 ⟨k.os.trans h.os,k.tape.trans h.tape,k.output.trans h.output,Nat.le_trans h.size k.size,fun i hi=>(k.block i (by omega) (fun hs=>by have:=hS i hs;omega)).trans (h.block i hi)⟩
theorem A6.touch{α:Type}{E:DL α}{w w':World}{base:Nat}{v:Value}{xs:List α}{S:Nat->Prop}(h:A6 E w base v xs)(hg:A5 S w w')(hne:∀k,v.ownBlock=some k->¬S k):A6 E w' base v xs:=by
 refine⟨h.1,?_⟩;rcases h.2 with hh|⟨g,cap,cur,e,hb,hgg,r⟩
 ·exact .inl hh
 ·refine .inr ⟨g,cap,cur,e,hb,?_,r⟩;rw[hg.block g (Array.getElem?_eq_some_iff.1 hgg).1 (hne g (by rw[e];rfl))];exact hgg
theorem Bu.touch{α:Type}{E:DL α}{w w':World}{v:Value}{n:Nat}{c:Nat->Nat->Value}{S:Nat->Prop}(h:Bu E w v n c)(hg:A5 S w w')(hne:∀k,v.ownBlock=some k->¬S k):Bu E w' v n c:=by
 obtain⟨a,cap,e,h1⟩:=h;refine⟨a,cap,e,fun h0=>?_⟩;obtain⟨g,N,f,p,q,r,s⟩:=h1 h0;subst e p;exact⟨g,N,f,rfl,q.of_block (hg.block g q.lt (hne g rfl)),r,s⟩
theorem AB.below{w w':World}{base:Nat}{m:MV}{M:A9}(h:AB w base m M)(hb:Below w.heap.size w w'):AB w' base m M:=⟨h.w.below hb,h.p.below hb,h.t.below hb,h.c.below hb⟩
theorem AB.touch{w w':World}{base:Nat}{m:MV}{M:A9}{S:Nat->Prop}(h:AB w base m M)(hg:A5 S w w')(hne:∀k,m.owns k->¬S k):AB w' base m M :=
 ⟨h.w.touch hg (fun k hk=>hne k (.inl hk)),h.p.touch hg (fun k hk=>hne k (.inr (.inl hk))),h.t.touch hg (fun k hk=>hne k (.inr (.inr (.inl hk)))),h.c.touch hg (fun k hk=>hne k (.inr (.inr (.inr hk))))⟩
theorem AB.rebase{w:World}{base base':Nat}{m:MV}{M:A9}(h:AB w base m M)(hb:base'<=base):AB w base' m M:=⟨h.w.rebase hb,h.p.rebase hb,h.t.rebase hb,h.c.rebase hb⟩
theorem AB.own{w:World}{base:Nat}{m:MV}{M:A9}(h:AB w base m M):∀k,m.owns k->base<=k/\k<w.heap.size:=by
 rintro k (hk|hk|hk|hk)
 ·exact h.w.own k hk
 ·exact h.p.own k hk
 ·exact h.t.own k hk
 ·exact h.c.own k hk
theorem Ew.at{w w':World}{m:MV}{M:A9}(h:Ew w m M)(hb:Below w.heap.size w w'):Ew w' m M:=by
 refine⟨?_,h.p.at hb,h.t.at hb,h.c.at hb⟩;obtain⟨a,cap,e,ha⟩:=h.w;refine⟨a,cap,e,fun h0=>?_⟩;obtain⟨b,o,e2,hbl,hc⟩:=ha h0;exact⟨b,o,e2,Nat.lt_of_lt_of_le hbl hb.size,fun i hi=>(hb.cell hbl).trans (hc i hi)⟩
theorem Cy{W w1:World}(hb:Below W.heap.size W w1):(∀b o,b<W.heap.size->w1.cell? ⟨b,o,none⟩=W.cell? ⟨b,o,none⟩)/\(∀b o,b<W.heap.size->w1.frozen? ⟨b,o,none⟩=W.frozen? ⟨b,o,none⟩) :=
 ⟨fun b o h=>hb.cell (p:=⟨b,o,none⟩) h,fun b o h=>hb.frozen (p:=⟨b,o,none⟩) h⟩
theorem Au(m m':MV)(M:A9)(b b':Nat)(w:World)(hs:M.Small)(h:AB w b m M)(h':AB w b' m' M):Calls prog 10 #[m.agg,m'.agg] w fun e w'=>e=.returned (.bool true)/\Below w.heap.size w w':=by
 have hw:=fun wX (hX:Below w.heap.size w wX)=>Id m.w m'.w b b' M.mem wX hs.w (h.w.below hX) (h'.w.below hX)
 have hp:=fun wX (hX:Below w.heap.size w wX)=>Gd m.p m'.p b b' M.pend wX hs.p (h.p.below hX) (h'.p.below hX)
 have ht:=fun wX (hX:Below w.heap.size w wX)=>J4 m.t m'.t b b' M.tlb wX hs.t (h.t.below hX) (h'.t.below hX)
 have hc:=fun wX (hX:Below w.heap.size w wX)=>Jd m.c m'.c b b' M.wc wX hs.c (h.c.below hX) (h'.c.below hX)
 obtain⟨a1,c1,e1,_⟩:=h.w.form;obtain⟨a2,c2,e2,_⟩:=h.p.form;obtain⟨a3,c3,e3,_⟩:=h.t.form;obtain⟨a4,c4,e4,_⟩:=h.c.form;obtain⟨a5,c5,e5,_⟩:=h'.w.form;obtain⟨a6,c6,e6,_⟩:=h'.p.form;obtain⟨a7,c7,e7,_⟩:=h'.t.form;obtain⟨a8,c8,e8,_⟩:=h'.c.form;unfold MV.agg;clear h h';rw[e1,e5] at hw;rw[e2,e6] at hp;rw[e3,e7] at ht;rw[e4,e8] at hc;rw[e1,e2,e3,e4,e5,e6,e7,e8];have HW:Hid _:=hw;have HP:Hid _:=hp;have HT:Hid _:=ht;have HC:Hid _:=hc;clear e1 e2 e3 e4 e5 e6 e7 e8 hw hp ht hc;go_enter func10,ntmps10
 go_wp2_with fail
 refine(HW.out _ ?_).mono ?_
 ·exact((Below.refl _ _).alloc (Nat.le_refl _) _).alloc (by simp) _
 rintro e w1 ⟨rfl,hb1⟩;obtain⟨hc1,hf1⟩:(∀b o,b<w.heap.size+2->w1.cell? ⟨b,o,none⟩=((w.alloc _).alloc _).cell? ⟨b,o,none⟩)/\(∀b o,b<w.heap.size+2->w1.frozen? ⟨b,o,none⟩=((w.alloc _).alloc _).frozen? ⟨b,o,none⟩) :=
  ⟨fun b o h=>hb1.cell (p:=⟨b,o,none⟩) (by simp;omega),fun b o h=>hb1.frozen (p:=⟨b,o,none⟩) (by simp;omega)⟩
 have B1:Below w.heap.size w w1:=(((Below.refl _ _).alloc (Nat.le_refl _) _).alloc (by simp) _).trans (hb1.mono (by simp;omega));have s1:=hb1.size;simp at s1;go_wp2_with fail
 refine(HP.out _ B1).mono ?_;rintro e w2 ⟨rfl,hb2⟩;have hc2:∀b o,b<w.heap.size+2->w2.cell? ⟨b,o,none⟩=((w.alloc _).alloc _).cell? ⟨b,o,none⟩:=fun b o h=>(hb2.cell (p:=⟨b,o,none⟩) (by simp;omega)).trans (hc1 b o h)
 have B2:=B1.trans (hb2.mono (by omega));have s2:=hb2.size;go_wp2_with fail
 refine(HT.out _ B2).mono ?_;rintro e w3 ⟨rfl,hb3⟩;have hc3:∀b o,b<w.heap.size+2->w3.cell? ⟨b,o,none⟩=((w.alloc _).alloc _).cell? ⟨b,o,none⟩:=fun b o h=>(hb3.cell (p:=⟨b,o,none⟩) (by simp;omega)).trans (hc2 b o h)
 have B3:=B2.trans (hb3.mono (by omega));have s3:=hb3.size;go_wp2_with fail
 refine(HC.out _ B3).mono ?_;rintro e w4 ⟨rfl,hb4⟩;go_wp2_with fail
 go_ret;exact⟨rfl,B3.trans (hb4.mono (by omega))⟩
theorem Bo(m:MV)(M:A9)(b:Nat)(w:World)(hs:M.Small)(h:AB w b m M)(hap:m.apart):Calls prog 12 #[m.agg,.int .i64 1] w fun e w'=>e=.returned (.int .i64 (1+M.mem.length+M.pend.length*2+M.tlb.length*5+M.wc.length*4))/\FY w' m M 1/\A5 m.owns w w':=by
 have z1:=hs.w;have z2:=hs.p;have z3:=hs.t;have z4:=hs.c;have hown:=h.own;obtain⟨a1,c1,e1,_⟩:=h.w.form;obtain⟨a2,c2,e2,_⟩:=h.p.form;obtain⟨a3,c3,e3,_⟩:=h.t.form;obtain⟨a4,c4,e4,_⟩:=h.c.form;have hagg:m.agg=.agg #[.slice a1 M.mem.length c1,.slice a2 M.pend.length c2,.slice a3 M.tlb.length c3,.slice a4 M.wc.length c4]:=by unfold MV.agg;rw[e1,e2,e3,e4]
 rw[hagg];obtain⟨wb,hwb⟩:∃wb,wb=w.alloc (.cells #[.slice a1 M.mem.length c1,.slice a2 M.pend.length c2,.slice a3 M.tlb.length c3,.slice a4 M.wc.length c4] 36):=⟨_,rfl⟩
 have hbb:Below w.heap.size w wb:=by rw[hwb];exact(Below.refl _ _).alloc (Nat.le_refl _) _
 have hzb:wb.heap.size=w.heap.size+1:=by rw[hwb];simp
 have q1:wb.cell? ⟨w.heap.size,1,none⟩=some (.slice a2 M.pend.length c2):=by rw[hwb];simp[go_sem]
 have q2:wb.cell? ⟨w.heap.size,2,none⟩=some (.slice a3 M.tlb.length c3):=by rw[hwb];simp[go_sem]
 have q3:wb.cell? ⟨w.heap.size,3,none⟩=some (.slice a4 M.wc.length c4):=by rw[hwb];simp[go_sem]
 have hrb:=h.below hbb;have hbox:∀wX,A5 m.owns wb wX->wX.cell? ⟨w.heap.size,1,none⟩=some (.slice a2 M.pend.length c2)/\wX.cell? ⟨w.heap.size,2,none⟩=some (.slice a3 M.tlb.length c3)/\wX.cell? ⟨w.heap.size,3,none⟩=some (.slice a4 M.wc.length c4):=by
  intro wX hX;have hk:=hX.block w.heap.size (by omega) (fun hs=>by have:=hown _ hs;omega);exact⟨(World.cell?_of_block hk).trans q1,(World.cell?_of_block hk).trans q2,(World.cell?_of_block hk).trans q3⟩
 have m1:=IE m.w b M.mem 1 wb (by omega) (by omega) hs.w hrb.w;rw[e1,hwb] at m1;have HWB:Hid (wb=_):=hwb;have HBB:Hid (Below _ _ _):=hbb;have HRB:Hid (AB wb b m M):=hrb;have HBOX:Hid _:=hbox;have HAP:Hid m.apart:=hap;have H1:Hid (m.w=_):=e1;have H2:Hid (m.p=_):=e2;have H3:Hid (m.t=_):=e3;have H4:Hid (m.c=_):=e4;clear h hown hagg hwb hbb q1 q2 q3 hrb hbox hap e1 e2 e3 e4;go_enter func12,ntmps12
 go_wp2_with fail
 refine m1.mono ?_;rintro e w1 ⟨rfl,h1,g1⟩;have t1:A5 m.owns wb w1:=by rw[HWB.out];exact A5.of_grown g1 (fun k hk=>.inl (by rw[H1.out];exact hk))
 have g1':wb.grownBy w1 m.w.ownBlock:=by rw[HWB.out,H1.out];exact g1
 have r1p:=HRB.out.p.kept g1' (fun k hk e=>((HAP.out k).1 e.symm).1 hk);have r1t:=HRB.out.t.kept g1' (fun k hk e=>((HAP.out k).1 e.symm).2.1 hk);have r1c:=HRB.out.c.kept g1' (fun k hk e=>((HAP.out k).1 e.symm).2.2 hk);have m2:=G4 m.p b M.pend (1+M.mem.length) w1 (by omega) (by omega) hs.p r1p;rw[H2.out] at m2;obtain⟨x1,x2,x3⟩:=HBOX.out w1 t1;have HA1:Hid (Bu AO w1 _ _ _):=h1;have HT1:Hid (A5 _ _ _):=t1;have HR1:Hid (A6 A7 w1 b m.t M.tlb/\A6 AJ w1 b m.c M.wc):=⟨r1t,r1c⟩;clear m1 h1 g1 g1' t1 r1p r1t r1c;go_wp2_with fail
 refine m2.mono ?_;rintro e w2 ⟨rfl,h2,g2⟩;have g2':w1.grownBy w2 m.p.ownBlock:=by rw[H2.out];exact g2
 have t2':A5 m.owns w1 w2:=A5.of_grown g2' (fun k hk=>.inr (.inl hk));have t2:=HT1.out.trans t2';have r2t:=HR1.out.1.kept g2' (fun k hk e=>((HAP.out k).2.1 e.symm).1 hk);have r2c:=HR1.out.2.kept g2' (fun k hk e=>((HAP.out k).2.1 e.symm).2 hk);have A1:Bu AO w2 m.w M.mem.length (CL 1):=by
  refine Bu.kept ?_ g2' (fun k hk e=>((HAP.out k).1 hk).1 e.symm);rw[H1.out];exact HA1.out
 have m3:=Hu m.t b M.tlb (1+M.mem.length+M.pend.length*2) w2 (by omega) (by omega) hs.t r2t;rw[H3.out] at m3;obtain⟨x1,x2',x3'⟩:=HBOX.out w2 t2;have HA2:Hid (Bu AO w2 m.w M.mem.length (CL 1)/\Bu AA w2 m.p M.pend.length (CU (1+M.mem.length))):=⟨A1,by rw[H2.out];exact h2⟩;have HT2:Hid (A5 _ wb w2):=t2;have HR2:Hid (A6 AJ w2 b m.c M.wc):=r2c;clear m2 h2 g2 g2' t2 t2' r2t r2c A1;go_wp2_with fail
 refine m3.mono ?_;rintro e w3 ⟨rfl,h3,g3⟩;have g3':w2.grownBy w3 m.t.ownBlock:=by rw[H3.out];exact g3
 have t3':A5 m.owns w2 w3:=A5.of_grown g3' (fun k hk=>.inr (.inr (.inl hk)));have t3:=HT2.out.trans t3';have r3c:=HR2.out.kept g3' (fun k hk e=>(HAP.out k).2.2 e.symm hk);have A3:=HA2.out.1.kept g3' (fun k hk e=>((HAP.out k).1 hk).2.1 e.symm);have B3:=HA2.out.2.kept g3' (fun k hk e=>((HAP.out k).2.1 hk).1 e.symm);have m4:=J9 m.c b M.wc (1+M.mem.length+M.pend.length*2+M.tlb.length*5) w3 (by omega) (by omega) hs.c r3c;rw[H4.out] at m4;obtain⟨y1,y2,y3⟩:=HBOX.out w3 t3;have C3:Bu A7 w3 m.t M.tlb.length (Ce (1+M.mem.length+M.pend.length*2)):=by rw[H3.out];exact h3
 have HA3:Hid (Bu AO w3 m.w M.mem.length (CL 1)/\Bu AA w3 m.p M.pend.length (CU (1+M.mem.length))/\Bu A7 w3 m.t M.tlb.length (Ce (1+M.mem.length+M.pend.length*2))):=⟨A3,B3,C3⟩;have HT3:Hid (A5 _ wb w3):=t3;clear m3 h3 g3 g3' t3 t3' r3c A3 B3 C3 x1 x2 x3 x2' x3';go_wp2_with fail
 refine m4.mono ?_;rintro e w4 ⟨rfl,h4,g4⟩;have g4':w3.grownBy w4 m.c.ownBlock:=by rw[H4.out];exact g4
 have t4:=HT3.out.trans (A5.of_grown (S:=m.owns) g4' (fun k hk=>.inr (.inr (.inr hk))));have A4:=HA3.out.1.kept g4' (fun k hk e=>((HAP.out k).1 hk).2.2 e.symm);have B4:=HA3.out.2.1.kept g4' (fun k hk e=>((HAP.out k).2.1 hk).2 e.symm);have C4:=HA3.out.2.2.kept g4' (fun k hk e=>(HAP.out k).2.2 hk e.symm);have D4:Bu AJ w4 m.c M.wc.length (Dq (1+M.mem.length+M.pend.length*2+M.tlb.length*5)):=by rw[H4.out];exact h4
 have HA4:Hid (FY w4 m M 1):=⟨A4,B4,C4,D4⟩;have HT4:Hid (A5 _ wb w4):=t4;clear m4 h4 g4 g4' t4 A4 B4 C4 D4 y1 y2 y3;go_wp2_with fail
 go_ret;exact⟨rfl,HA4.out,(A5.of_below HBB.out).trans HT4.out⟩
theorem Cx(m:MV)(M:A9)(w:World)(hs:M.Small)(h:FY w m M 1):Calls prog 13 #[m.agg,.int .i64 1] w fun e w'=>e=.returned (.int .i64 (1+M.mem.length+M.pend.length*2+M.tlb.length*5+M.wc.length*4))/\Below w.heap.size w w':=by
 have z1:=hs.w;have z2:=hs.p;have z3:=hs.t;have z4:=hs.c;have hw:=fun wX (hX:Below w.heap.size w wX)=>I5 m.w M.mem.length 1 wX (by omega) (by omega) hs.w (h.w.below hX)
 have hp:=fun wX (hX:Below w.heap.size w wX)=>G9 m.p M.pend.length (1+M.mem.length) wX (by omega) (by omega) hs.p (h.p.below hX)
 have ht:=fun wX (hX:Below w.heap.size w wX)=>IG m.t M.tlb.length (1+M.mem.length+M.pend.length*2) wX (by omega) (by omega) hs.t (h.t.below hX)
 have hc:=fun wX (hX:Below w.heap.size w wX)=>JG m.c M.wc.length (1+M.mem.length+M.pend.length*2+M.tlb.length*5) wX (by omega) (by omega) hs.c (h.c.below hX)
 obtain⟨a1,c1,e1,_⟩:=h.w;obtain⟨a2,c2,e2,_⟩:=h.p;obtain⟨a3,c3,e3,_⟩:=h.t;obtain⟨a4,c4,e4,_⟩:=h.c;unfold MV.agg;rw[e1] at hw;rw[e2] at hp;rw[e3] at ht;rw[e4] at hc;rw[e1,e2,e3,e4];have HW:Hid _:=hw;have HP:Hid _:=hp;have HT:Hid _:=ht;have HC:Hid _:=hc;have k1:decide (1+(M.mem.length:Int)<0)=false:=by simp;omega
 have k2:decide (1+(M.mem.length:Int)+M.pend.length*2<0)=false:=by simp;omega
 have k3:decide (1+(M.mem.length:Int)+M.pend.length*2+M.tlb.length*5<0)=false:=by simp;omega
 have k4:decide (1+(M.mem.length:Int)+M.pend.length*2+M.tlb.length*5+M.wc.length*4<0)=false:=by simp;omega
 clear e1 e2 e3 e4 hw hp ht hc h;go_enter func13,ntmps13
 go_wp2_with fail
 refine(HW.out _ ?_).mono ?_
 ·exact(Below.refl _ _).alloc (Nat.le_refl _) _
 rintro e w1 ⟨rfl,hb1⟩;have hc1:∀o,w1.cell? ⟨w.heap.size,o,none⟩=(w.alloc _).cell? ⟨w.heap.size,o,none⟩:=fun o=>hb1.cell (p:=⟨w.heap.size,o,none⟩) (by simp)
 have B1:Below w.heap.size w w1:=((Below.refl _ _).alloc (Nat.le_refl _) _).trans (hb1.mono (by simp));have s1:=hb1.size;simp at s1;go_wp2_with fail
 refine(HP.out _ B1).mono ?_;rintro e w2 ⟨rfl,hb2⟩;have hc2:∀o,w2.cell? ⟨w.heap.size,o,none⟩=(w.alloc _).cell? ⟨w.heap.size,o,none⟩:=fun o=>(hb2.cell (p:=⟨w.heap.size,o,none⟩) (by simp;omega)).trans (hc1 o)
 have B2:=B1.trans (hb2.mono (by omega));have s2:=hb2.size;go_wp2_with fail
 refine(HT.out _ B2).mono ?_;rintro e w3 ⟨rfl,hb3⟩;have hc3:∀o,w3.cell? ⟨w.heap.size,o,none⟩=(w.alloc _).cell? ⟨w.heap.size,o,none⟩:=fun o=>(hb3.cell (p:=⟨w.heap.size,o,none⟩) (by simp;omega)).trans (hc2 o)
 have B3:=B2.trans (hb3.mono (by omega));have s3:=hb3.size;go_wp2_with fail
 refine(HC.out _ B3).mono ?_;rintro e w4 ⟨rfl,hb4⟩;go_wp2_with fail
 go_ret;exact⟨rfl,B3.trans (hb4.mono (by omega))⟩
end
theorem C9(a1 a2 a3 a4:Option Addr)(n1 n2 n3 n4 c1 c2 c3 c4:Nat)(h1:n1<=9223372036854775807)(h2:n2<=9223372036854775807)(h3:n3<=9223372036854775807)(h4:n4<=9223372036854775807)(w:World):Calls prog 6 #[.agg #[.slice a1 n1 c1,.slice a2 n2 c2,.slice a3 n3 c3,.slice a4 n4 c4],.int .i64 1048576] w fun e w'=>e=.returned (.int .i64 (if n1+n2+n3+n4<=1048576 then 1048576-n1-n2-n3-n4 else -1))/\Below w.heap.size w w':=by
 have q1:=KZ a1 n1 c1 h1;by_cases k1:n1<=1048576
 ·rw[if_pos (by omega)] at q1;have q2:=Ic a2 n2 c2 (1048576-n1) h2 (by omega) (by omega);by_cases k2:n1+n2<=1048576
  ·rw[if_pos (by omega)] at q2;have q3:=LX a3 n3 c3 (1048576-n1-n2) h3 (by omega) (by omega);by_cases k3:n1+n2+n3<=1048576
   ·rw[if_pos (by omega)] at q3;have q4:=Lb a4 n4 c4 (1048576-n1-n2-n3) h4 (by omega) (by omega);(have d1:decide ((1048576:Int)-n1<0)=false:=by simp;omega);(have d2:decide ((1048576:Int)-n1-n2<0)=false:=by simp;omega);(have d3:decide ((1048576:Int)-n1-n2-n3<0)=false:=by simp;omega);by_cases k4:n1+n2+n3+n4<=1048576
    ·rw[if_pos (by omega)] at q4;rw[if_pos k4];(have d4:decide ((1048576:Int)-n1-n2-n3-n4<0)=false:=by simp;omega);go_enter func6,ntmps6
     go_wp2_with (first
      | (go_at_call 30;refine(q1 _).mono ?_;rintro e w1 ⟨rfl,hb1⟩;obtain⟨hc1,hf1⟩:=Cy hb1)
      | (go_at_call 31;refine(q2 _).mono ?_;rintro e w2 ⟨rfl,rfl⟩)
      | (go_at_call 32;refine(q3 _).mono ?_;rintro e w3 ⟨rfl,rfl⟩)
      | (go_at_call 33;refine(q4 _).mono ?_;rintro e w4 ⟨rfl,rfl⟩))
     go_ret;exact⟨rfl,((Below.refl _ _).alloc (Nat.le_refl _) _).trans (hb1.mono (by simp))⟩
    ·rw[if_neg (by omega)] at q4;rw[if_neg k4];go_enter func6,ntmps6
     go_wp2_with (first
      | (go_at_call 30;refine(q1 _).mono ?_;rintro e w1 ⟨rfl,hb1⟩;obtain⟨hc1,hf1⟩:=Cy hb1)
      | (go_at_call 31;refine(q2 _).mono ?_;rintro e w2 ⟨rfl,rfl⟩)
      | (go_at_call 32;refine(q3 _).mono ?_;rintro e w3 ⟨rfl,rfl⟩)
      | (go_at_call 33;refine(q4 _).mono ?_;rintro e w4 ⟨rfl,rfl⟩))
     go_ret;exact⟨rfl,((Below.refl _ _).alloc (Nat.le_refl _) _).trans (hb1.mono (by simp))⟩
   ·rw[if_neg (by omega)] at q3;rw[if_neg (by omega)];(have d1:decide ((1048576:Int)-n1<0)=false:=by simp;omega);(have d2:decide ((1048576:Int)-n1-n2<0)=false:=by simp;omega);go_enter func6,ntmps6
    go_wp2_with (first
     | (go_at_call 30;refine(q1 _).mono ?_;rintro e w1 ⟨rfl,hb1⟩;obtain⟨hc1,hf1⟩:=Cy hb1)
     | (go_at_call 31;refine(q2 _).mono ?_;rintro e w2 ⟨rfl,rfl⟩)
     | (go_at_call 32;refine(q3 _).mono ?_;rintro e w3 ⟨rfl,rfl⟩))
    go_ret;exact⟨rfl,((Below.refl _ _).alloc (Nat.le_refl _) _).trans (hb1.mono (by simp))⟩
  ·rw[if_neg (by omega)] at q2;rw[if_neg (by omega)];(have d1:decide ((1048576:Int)-n1<0)=false:=by simp;omega);go_enter func6,ntmps6
   go_wp2_with (first
    | (go_at_call 30;refine(q1 _).mono ?_;rintro e w1 ⟨rfl,hb1⟩;obtain⟨hc1,hf1⟩:=Cy hb1)
    | (go_at_call 31;refine(q2 _).mono ?_;rintro e w2 ⟨rfl,rfl⟩))
   go_ret;exact⟨rfl,((Below.refl _ _).alloc (Nat.le_refl _) _).trans (hb1.mono (by simp))⟩
 ·rw[if_neg (by omega)] at q1;rw[if_neg (by omega)];go_enter func6,ntmps6
  go_wp2_with (go_at_call 30;refine(q1 _).mono ?_;rintro e w1 ⟨rfl,hb1⟩)
  go_ret;exact⟨rfl,((Below.refl _ _).alloc (Nat.le_refl _) _).trans (hb1.mono (by simp))⟩
theorem Gj(m:MV)(M:A9)(w:World)(hs:M.Small)(h:Ew w m M):Calls prog 8 #[m.agg] w fun e w'=>∃m':MV,e=.returned m'.agg/\AB w' w.heap.size m' M/\m'.apart/\Below w.heap.size w w':=by
 have hw:=fun wX (hX:Below w.heap.size w wX)=>Ks m.w M.mem wX (h.at hX).w hs.w
 have hp:=fun wX (hX:Below w.heap.size w wX)=>IB m.p M.pend wX (h.at hX).p hs.p
 have ht:=fun wX (hX:Below w.heap.size w wX)=>KG m.t M.tlb wX (h.at hX).t hs.t
 have hc:=fun wX (hX:Below w.heap.size w wX)=>Kx m.c M.wc wX (h.at hX).c hs.c
 obtain⟨a1,c1,e1,_⟩:=h.w;obtain⟨a2,c2,e2,_⟩:=h.p;obtain⟨a3,c3,e3,_⟩:=h.t;obtain⟨a4,c4,e4,_⟩:=h.c;unfold MV.agg;rw[e1] at hw;rw[e2] at hp;rw[e3] at ht;rw[e4] at hc;rw[e1,e2,e3,e4];have z1:=hs.w;have HW:Hid _:=hw;have HP:Hid _:=hp;have HT:Hid _:=ht;have HC:Hid _:=hc;clear e1 e2 e3 e4 hw hp ht hc h;go_enter func8,ntmps8
 go_wp2_with fail
 refine(HW.out _ ?_).mono ?_
 ·exact(((Below.refl _ _).alloc (Nat.le_refl _) _).alloc (by simp) _).alloc (by simp<;>omega) _
 rintro e w1 ⟨g1,rfl,hg1,hr1,hb1⟩;obtain⟨hc1,hf1⟩:(∀b o,b<w.heap.size+3->w1.cell? ⟨b,o,none⟩=(((w.alloc _).alloc _).alloc _).cell? ⟨b,o,none⟩)/\(∀b o,b<w.heap.size+3->w1.frozen? ⟨b,o,none⟩=(((w.alloc _).alloc _).alloc _).frozen? ⟨b,o,none⟩) :=
  ⟨fun b o h=>hb1.cell (p:=⟨b,o,none⟩) (by simp;omega),fun b o h=>hb1.frozen (p:=⟨b,o,none⟩) (by simp;omega)⟩
 have s1:=hb1.size;simp at s1 hg1;have B1:Below w.heap.size w w1:=((((Below.refl _ _).alloc (Nat.le_refl _) _).alloc (by simp) _).alloc (by simp<;>omega) _).trans (hb1.mono (by simp;omega));have R1:=hr1.erow (base:=w.heap.size) (by omega) hs.w;have l1:=hr1.lt;have HR1:Hid (A6 AO w1 _ _ _):=R1;have HB1:Hid (Below _ w w1):=B1;clear hr1 R1 B1 hb1;go_wp2_with fail
 refine(HP.out _ (HB1.out.setCell (by simp;omega) _)).mono ?_;rintro e w2 ⟨rfl,hr2,hb2⟩;simp only[World.size_setCell] at hr2;obtain⟨hc2,hf2⟩:(∀b o,b<w.heap.size+3->w2.cell? ⟨b,o,none⟩=(w1.setCell _ _).cell? ⟨b,o,none⟩)/\(∀b o,b<w.heap.size+3->w2.frozen? ⟨b,o,none⟩=(w1.setCell _ _).frozen? ⟨b,o,none⟩) :=
  ⟨fun b o h=>hb2.cell (p:=⟨b,o,none⟩) (by simp;omega),fun b o h=>hb2.frozen (p:=⟨b,o,none⟩) (by simp;omega)⟩
 have s2:=hb2.size;simp at s2;have T2:A5 (fun k=>k=w.heap.size+1+1) w1 w2:=⟨hb2.os,hb2.tape,hb2.output,by omega,fun k hk hn=>(hb2.block k (by simpa using hk)).trans (Below.heap_setCell _ _ _ _ hn)⟩;have B2:Below w.heap.size w w2:=A5.below HB1.out T2 (by omega) (fun k hk=>by omega);have l2:w1.heap.size<w2.heap.size:=by have:=hr2.own w1.heap.size rfl;omega
 have HR2:Hid (A6 AO w2 w.heap.size (.slice (some ⟨g1,0,none⟩) M.mem.length M.mem.length) M.mem/\A6 AA w2 w.heap.size (.slice (some ⟨w1.heap.size,0,none⟩) M.pend.length M.pend.length) M.pend) :=
  ⟨HR1.out.touch T2 (fun k hk hx=>by simp[Value.ownBlock] at hk;omega),hr2.rebase (by omega)⟩
 have HB2:Hid (Below _ w w2):=B2;clear hr2 hb2 T2 B2;go_wp2_with fail
 refine(HT.out _ (HB2.out.setCell (by simp;omega) _)).mono ?_;rintro e w3 ⟨rfl,hr3,hb3⟩;simp only[World.size_setCell] at hr3;obtain⟨hc3,hf3⟩:(∀b o,b<w.heap.size+3->w3.cell? ⟨b,o,none⟩=(w2.setCell _ _).cell? ⟨b,o,none⟩)/\(∀b o,b<w.heap.size+3->w3.frozen? ⟨b,o,none⟩=(w2.setCell _ _).frozen? ⟨b,o,none⟩) :=
  ⟨fun b o h=>hb3.cell (p:=⟨b,o,none⟩) (by simp;omega),fun b o h=>hb3.frozen (p:=⟨b,o,none⟩) (by simp;omega)⟩
 have s3:=hb3.size;simp at s3;have T3:A5 (fun k=>k=w.heap.size+1+1) w2 w3:=⟨hb3.os,hb3.tape,hb3.output,by omega,fun k hk hn=>(hb3.block k (by simpa using hk)).trans (Below.heap_setCell _ _ _ _ hn)⟩;have B3:Below w.heap.size w w3:=A5.below HB2.out T3 (by omega) (fun k hk=>by omega);have l3:w2.heap.size<w3.heap.size:=by have:=hr3.own w2.heap.size rfl;omega
 have HR3:Hid (A6 AO w3 w.heap.size (.slice (some ⟨g1,0,none⟩) M.mem.length M.mem.length) M.mem/\A6 AA w3 w.heap.size (.slice (some ⟨w1.heap.size,0,none⟩) M.pend.length M.pend.length) M.pend/\A6 A7 w3 w.heap.size (.slice (some ⟨w2.heap.size,0,none⟩) M.tlb.length M.tlb.length) M.tlb) :=
  ⟨HR2.out.1.touch T3 (fun k hk hx=>by simp[Value.ownBlock] at hk;omega),HR2.out.2.touch T3 (fun k hk hx=>by simp[Value.ownBlock] at hk;omega),hr3.rebase (by omega)⟩
 have HB3:Hid (Below _ w w3):=B3;clear hr3 hb3 T3 B3;go_wp2_with fail
 refine(HC.out _ (HB3.out.setCell (by simp;omega) _)).mono ?_;rintro e w4 ⟨rfl,hr4,hb4⟩;simp only[World.size_setCell] at hr4;obtain⟨hc4,hf4⟩:(∀b o,b<w.heap.size+3->w4.cell? ⟨b,o,none⟩=(w3.setCell _ _).cell? ⟨b,o,none⟩)/\(∀b o,b<w.heap.size+3->w4.frozen? ⟨b,o,none⟩=(w3.setCell _ _).frozen? ⟨b,o,none⟩) :=
  ⟨fun b o h=>hb4.cell (p:=⟨b,o,none⟩) (by simp;omega),fun b o h=>hb4.frozen (p:=⟨b,o,none⟩) (by simp;omega)⟩
 have s4:=hb4.size;simp at s4;have T4:A5 (fun k=>k=w.heap.size+1+1) w3 w4:=⟨hb4.os,hb4.tape,hb4.output,by omega,fun k hk hn=>(hb4.block k (by simpa using hk)).trans (Below.heap_setCell _ _ _ _ hn)⟩;have B4:Below w.heap.size w w4:=A5.below HB3.out T4 (by omega) (fun k hk=>by omega);have l4:w3.heap.size<w4.heap.size:=by have:=hr4.own w3.heap.size rfl;omega
 have HR4:Hid (AB w4 w.heap.size ⟨.slice (some ⟨g1,0,none⟩) M.mem.length M.mem.length,.slice (some ⟨w1.heap.size,0,none⟩) M.pend.length M.pend.length,.slice (some ⟨w2.heap.size,0,none⟩) M.tlb.length M.tlb.length,.slice (some ⟨w3.heap.size,0,none⟩) M.wc.length M.wc.length⟩ M) :=
  ⟨HR3.out.1.touch T4 (fun k hk hx=>by simp[Value.ownBlock] at hk;omega),HR3.out.2.1.touch T4 (fun k hk hx=>by simp[Value.ownBlock] at hk;omega),HR3.out.2.2.touch T4 (fun k hk hx=>by simp[Value.ownBlock] at hk;omega),hr4.rebase (by omega)⟩
 have HB4:Hid (Below _ w w4):=B4;clear hr4 hb4 T4 B4;go_wp2_with fail
 refine bodyPost_ret (v:=.agg #[.slice (some ⟨g1,0,none⟩) M.mem.length M.mem.length,.slice (some ⟨w1.heap.size,0,none⟩) M.pend.length M.pend.length,.slice (some ⟨w2.heap.size,0,none⟩) M.tlb.length M.tlb.length,.slice (some ⟨w3.heap.size,0,none⟩) M.wc.length M.wc.length])
  (by simp[results,results8,go_sem,hc4,hc3,hc2,hc1]) rfl ⟨⟨.slice (some ⟨g1,0,none⟩) M.mem.length M.mem.length,.slice (some ⟨w1.heap.size,0,none⟩) M.pend.length M.pend.length,.slice (some ⟨w2.heap.size,0,none⟩) M.tlb.length M.tlb.length,.slice (some ⟨w3.heap.size,0,none⟩) M.wc.length M.wc.length⟩,rfl,?_,?_,?_⟩
 ·refine HR4.out.touch (S:=fun k=>k=w.heap.size+1+1\/k=w.heap.size+1) ⟨rfl,rfl,rfl,by simp,fun k hk hn=>?_⟩ ?_
  ·(have n1:k≠w.heap.size+1+1:=fun e=>hn (.inl e));(have n2:k≠w.heap.size+1:=fun e=>hn (.inr e));rw[Below.heap_setCell _ _ _ _ (by exact n2),Below.heap_setCell _ _ _ _ (by exact n2),Below.heap_setCell _ _ _ _ (by exact n2),Below.heap_setCell _ _ _ _ (by exact n2),Below.heap_setCell _ _ _ _ (by exact n1)]
  ·rintro k (hk|hk|hk|hk)<;>simp[Value.ownBlock] at hk<;>omega
 ·intro k;simp only[Value.ownBlock,Option.some.injEq,ne_eq];omega
 ·exact((((HB4.out.setCell (by simp;omega) _).setCell (by simp) _).setCell (by simp) _).setCell (by simp) _).setCell (by simp) _
section
attribute [local go_sem ↓] wp_at_zero wp_at_succ
def Md (w:World) (B:Nat):Prop:=B<w.heap.size/\w.cell? ⟨B,0,none⟩=some (.slice none 0 0)/\w.cell? ⟨B,1,none⟩=some (.slice none 0 0)/\w.cell? ⟨B,2,none⟩=some (.slice none 0 0)/\w.cell? ⟨B,3,none⟩=some (.slice none 0 0)/\w.frozen? ⟨B,0,none⟩=false/\w.frozen? ⟨B,1,none⟩=false/\w.frozen? ⟨B,2,none⟩=false/\w.frozen? ⟨B,3,none⟩=false
theorem Md.alloc(w:World):Md (w.alloc (.cells #[.slice none 0 0,.slice none 0 0,.slice none 0 0,.slice none 0 0] 36)) w.heap.size:=by
 refine⟨by simp,?_,?_,?_,?_,?_,?_,?_,?_⟩<;>simp[go_sem]
theorem Md.below{w w':World}{B:Nat}(h:Md w B)(hb:Below w.heap.size w w'):Md w' B:=by
 have h1:=h.1;have h2:=hb.size;refine⟨by omega,?_,?_,?_,?_,?_,?_,?_,?_⟩
 ·exact(hb.cell (by simpa using h1)).trans h.2.1
 ·exact(hb.cell (by simpa using h1)).trans h.2.2.1
 ·exact(hb.cell (by simpa using h1)).trans h.2.2.2.1
 ·exact(hb.cell (by simpa using h1)).trans h.2.2.2.2.1
 ·exact(hb.frozen (by simpa using h1)).trans h.2.2.2.2.2.1
 ·exact(hb.frozen (by simpa using h1)).trans h.2.2.2.2.2.2.1
 ·exact(hb.frozen (by simpa using h1)).trans h.2.2.2.2.2.2.2.1
 ·exact(hb.frozen (by simpa using h1)).trans h.2.2.2.2.2.2.2.2
theorem Nf{α β γ:Type}{G:Prop}{F:α->β->γ->Prop}{C:α->β->γ->Prop}(h1:(∀a b c,F a b c->C a b c)->G)(h2:∀a b c,F a b c->C a b c):G:=h1 h2
end
end Go.Proofs.YtnmhkgmmpkjjeabGreat
