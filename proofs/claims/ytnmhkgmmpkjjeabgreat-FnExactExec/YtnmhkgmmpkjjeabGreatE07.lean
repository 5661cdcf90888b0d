import Derived.Deep.Slices
import Derived.ChangeOld
import Derived.Test.YtnmhkgmmpkjjeabGreatE06
namespace Go.Proofs.YtnmhkgmmpkjjeabGreat
open ChangeShapes WideShapes ChangeAt RowKit Proofs.Tryz
set_option linter.all false
set_option maxRecDepth 100000
set_option maxHeartbeats 4000000
theorem DA{α:Type}(E:DL α)(Q:α->Prop){H:Type}{enc:TypeId×Value->H}{W:World}{sp:Nat->Bool}{T ts:TypeId}(ht:prog.underlying ts=some (.slice T))(hc:prog.cellsOf T=E.sz)(hel:∀n cs y,DataW.trod enc prog W 0 sp true n T cs=some y->∃x,cs=E.enc x/\Q x){fuel:Nat}{v:Value}{y:DataW H×List MemPlace}(hf:DataW.trod enc prog W 0 sp true fuel ts [v]=some y):∃xs,EX E W v xs/\xs.length<=9223372036854775807/\∀i,i<xs.length->Q (A8 E xs i):=by
 rcases Go.Deep.open_slice ht hf with⟨hcs,_⟩|⟨a,len,cap,m,n,D,Pl,hcs,_,hl,hm,hmm,_,hx⟩
 ·simp at hcs;subst hcs;exact⟨[],⟨none,0,rfl,fun h=>absurd h (by simp)⟩,by simp,fun i hi=>absurd hi (by simp)⟩
 ·simp at hcs;subst hcs;unfold maxLen at hm;have hlm:len<=m:=by rw[hmm];split<;>omega
  have hex:∀i,i<len->∃x,Q x/\∀j,j<E.sz->W.cell? ((a.add (i*E.sz)).add j)=(E.enc x)[j]?:=by
   intro i hi;obtain⟨cs',h1,h2⟩:=hx i (by omega);obtain⟨x,rfl,hq⟩:=hel _ _ _ h2;rw[hc] at h1;exact⟨x,hq,(World.cells?_some h1).2.2⟩
  have hch:∃X:Nat->α,∀i,i<len->Q (X i)/\∀j,j<E.sz->W.cell? ((a.add (i*E.sz)).add j)=(E.enc (X i))[j]?:=by
   refine⟨fun i=>if hi:i<len then Classical.choose (hex i hi) else E.dflt,fun i hi=>?_⟩;simp only[dif_pos hi];exact Classical.choose_spec (hex i hi)
  obtain⟨X,hX⟩:=hch;have hlen:((List.range len).map X).length=len:=by simp
  have hat:∀i,i<len->A8 E ((List.range len).map X) i=X i:=by
   intro i hi;simp[A8,hi]
  refine⟨(List.range len).map X,⟨some a,cap,by rw[hlen],fun h0=>?_⟩,by omega,fun i hi=>?_⟩
  ·rw[hlen] at h0;have hcell:∀i,i<len->∀j,j<E.sz->W.cell? ((a.add (i*E.sz)).add j)=some (AL E ((List.range len).map X) i j):=by
    intro i hi j hj;rw[(hX i hi).2 j hj,AL,hat i hi,List.getElem?_eq_getElem (by rw[E.len];exact hj)];rfl
   obtain⟨b,off,spot⟩:=a;have hspot:spot=none:=by
    have:=hcell 0 h0 0 E.pos;simpa [Addr.add] using World.cell?_spot this
   subst hspot;have hplain:∀i,i<len->∀j,j<E.sz->W.cell? ⟨b,off+i*E.sz+j,none⟩=some (AL E ((List.range len).map X) i j):=by
    intro i hi j hj;have:=hcell i hi j hj;rwa [add_plain,add_plain] at this
   exact⟨b,off,rfl,World.block_lt_of_cell? W _ (hplain 0 h0 0 E.pos),fun i hi j hj=>hplain i (by omega) j hj⟩
  ·rw[hlen] at hi;rw[hat i hi];exact(hX i hi).1
theorem CF:laidOutB prog=true:=by kernel_rfl
theorem Na{α:Type}{l:List α}(h:l.length=2):∃a0 a1,l=[a0,a1]:=by
 match l,h with
 | [a0,a1],_=>exact⟨a0,a1,rfl⟩
theorem KQ{α:Type}{l:List α}(h:l.length=4):∃a0 a1 a2 a3,l=[a0,a1,a2,a3]:=by
 match l,h with
 | [a0,a1,a2,a3],_=>exact⟨a0,a1,a2,a3,rfl⟩
theorem NY{α:Type}{l:List α}(h:l.length=5):∃a0 a1 a2 a3 a4,l=[a0,a1,a2,a3,a4]:=by
 match l,h with
 | [a0,a1,a2,a3,a4],_=>exact⟨a0,a1,a2,a3,a4,rfl⟩
theorem GJ:prog.cellsOf 141=2:=by kernel_rfl
def I3 (x:BJ):Prop:=(Lit.int .i64 x.addr).wf=true/\(Lit.int .u64 x.word).wf=true
set_option maxRecDepth 100000 in
theorem Mk{H:Type}{enc:TypeId×Value->H}{W:World}{sp:Nat->Bool}(n:Nat)(cs:List Value)(y:DataW H×List MemPlace)(h:DataW.trod enc prog W 0 sp true n 141 cs=some y):∃x,cs=AA.enc x/\I3 x:=by
 obtain⟨xs,m,_,_,hl,hlen,hf⟩:=DataW.trod_struct underlying141 h;rw[GJ] at hl;obtain⟨v0,v1,rfl⟩:=Na hl;have h0:DataW.trod enc prog W 0 sp true m 3 [v0]=xs[0]?:=hf 0 _ rfl;have h1:DataW.trod enc prog W 0 sp true m 46 [v1]=xs[1]?:=hf 1 _ rfl;have k0:∃z,xs[0]?=some z:=⟨_,List.getElem?_eq_getElem (by rw[hlen];decide)⟩
 obtain⟨z0,e0⟩:=k0;rw[e0] at h0;obtain⟨q0,r0,_,w0⟩:=DataW.trod_int underlying3 h0;simp only[List.cons.injEq,and_true] at r0;have k1:∃z,xs[1]?=some z:=⟨_,List.getElem?_eq_getElem (by rw[hlen];decide)⟩
 obtain⟨z1,e1⟩:=k1;rw[e1] at h1;obtain⟨q1,r1,_,w1⟩:=DataW.trod_int underlying46 h1;simp only[List.cons.injEq,and_true] at r1;exact⟨⟨q0,q1⟩,by rw[r0,r1];rfl,w0,w1⟩
theorem JL:prog.cellsOf 143=5:=by kernel_rfl
def M5 (x:Am):Prop:=(Lit.int .i64 x.page).wf=true/\(Lit.int .i64 x.size).wf=true/\(Lit.int .i64 x.out).wf=true/\(Lit.int .i64 x.perm).wf=true
set_option maxRecDepth 100000 in
theorem Nc{H:Type}{enc:TypeId×Value->H}{W:World}{sp:Nat->Bool}(n:Nat)(cs:List Value)(y:DataW H×List MemPlace)(h:DataW.trod enc prog W 0 sp true n 143 cs=some y):∃x,cs=A7.enc x/\M5 x:=by
 obtain⟨xs,m,_,_,hl,hlen,hf⟩:=DataW.trod_struct underlying143 h;rw[JL] at hl;obtain⟨v0,v1,v2,v3,v4,rfl⟩:=NY hl;have h0:DataW.trod enc prog W 0 sp true m 3 [v0]=xs[0]?:=hf 0 _ rfl;have h1:DataW.trod enc prog W 0 sp true m 3 [v1]=xs[1]?:=hf 1 _ rfl;have h2:DataW.trod enc prog W 0 sp true m 3 [v2]=xs[2]?:=hf 2 _ rfl;have h3:DataW.trod enc prog W 0 sp true m 3 [v3]=xs[3]?:=hf 3 _ rfl;have h4:DataW.trod enc prog W 0 sp true m 4 [v4]=xs[4]?:=hf 4 _ rfl;have k0:∃z,xs[0]?=some z:=⟨_,List.getElem?_eq_getElem (by rw[hlen];decide)⟩
 obtain⟨z0,e0⟩:=k0;rw[e0] at h0;obtain⟨q0,r0,_,w0⟩:=DataW.trod_int underlying3 h0;simp only[List.cons.injEq,and_true] at r0;have k1:∃z,xs[1]?=some z:=⟨_,List.getElem?_eq_getElem (by rw[hlen];decide)⟩
 obtain⟨z1,e1⟩:=k1;rw[e1] at h1;obtain⟨q1,r1,_,w1⟩:=DataW.trod_int underlying3 h1;simp only[List.cons.injEq,and_true] at r1;have k2:∃z,xs[2]?=some z:=⟨_,List.getElem?_eq_getElem (by rw[hlen];decide)⟩
 obtain⟨z2,e2⟩:=k2;rw[e2] at h2;obtain⟨q2,r2,_,w2⟩:=DataW.trod_int underlying3 h2;simp only[List.cons.injEq,and_true] at r2;have k3:∃z,xs[3]?=some z:=⟨_,List.getElem?_eq_getElem (by rw[hlen];decide)⟩
 obtain⟨z3,e3⟩:=k3;rw[e3] at h3;obtain⟨q3,r3,_,w3⟩:=DataW.trod_int underlying3 h3;simp only[List.cons.injEq,and_true] at r3;have k4:∃z,xs[4]?=some z:=⟨_,List.getElem?_eq_getElem (by rw[hlen];decide)⟩
 obtain⟨z4,e4⟩:=k4;rw[e4] at h4;obtain⟨q4,r4,_⟩:=DataW.trod_bool underlying4 h4;simp only[List.cons.injEq,and_true] at r4;exact⟨⟨q0,q1,q2,q3,q4⟩,by rw[r0,r1,r2,r3,r4];rfl,w0,w1,w2,w3⟩
theorem KK:prog.cellsOf 145=4:=by kernel_rfl
def NM (x:CI):Prop:=(Lit.int .i64 x.level).wf=true/\(Lit.int .i64 x.page).wf=true/\(Lit.int .i64 x.table).wf=true
set_option maxRecDepth 100000 in
theorem Nk{H:Type}{enc:TypeId×Value->H}{W:World}{sp:Nat->Bool}(n:Nat)(cs:List Value)(y:DataW H×List MemPlace)(h:DataW.trod enc prog W 0 sp true n 145 cs=some y):∃x,cs=AJ.enc x/\NM x:=by
 obtain⟨xs,m,_,_,hl,hlen,hf⟩:=DataW.trod_struct underlying145 h;rw[KK] at hl;obtain⟨v0,v1,v2,v3,rfl⟩:=KQ hl;have h0:DataW.trod enc prog W 0 sp true m 3 [v0]=xs[0]?:=hf 0 _ rfl;have h1:DataW.trod enc prog W 0 sp true m 3 [v1]=xs[1]?:=hf 1 _ rfl;have h2:DataW.trod enc prog W 0 sp true m 3 [v2]=xs[2]?:=hf 2 _ rfl;have h3:DataW.trod enc prog W 0 sp true m 4 [v3]=xs[3]?:=hf 3 _ rfl;have k0:∃z,xs[0]?=some z:=⟨_,List.getElem?_eq_getElem (by rw[hlen];decide)⟩
 obtain⟨z0,e0⟩:=k0;rw[e0] at h0;obtain⟨q0,r0,_,w0⟩:=DataW.trod_int underlying3 h0;simp only[List.cons.injEq,and_true] at r0;have k1:∃z,xs[1]?=some z:=⟨_,List.getElem?_eq_getElem (by rw[hlen];decide)⟩
 obtain⟨z1,e1⟩:=k1;rw[e1] at h1;obtain⟨q1,r1,_,w1⟩:=DataW.trod_int underlying3 h1;simp only[List.cons.injEq,and_true] at r1;have k2:∃z,xs[2]?=some z:=⟨_,List.getElem?_eq_getElem (by rw[hlen];decide)⟩
 obtain⟨z2,e2⟩:=k2;rw[e2] at h2;obtain⟨q2,r2,_,w2⟩:=DataW.trod_int underlying3 h2;simp only[List.cons.injEq,and_true] at r2;have k3:∃z,xs[3]?=some z:=⟨_,List.getElem?_eq_getElem (by rw[hlen];decide)⟩
 obtain⟨z3,e3⟩:=k3;rw[e3] at h3;obtain⟨q3,r3,_⟩:=DataW.trod_bool underlying4 h3;simp only[List.cons.injEq,and_true] at r3;exact⟨⟨q0,q1,q2,q3⟩,by rw[r0,r1,r2,r3];rfl,w0,w1,w2⟩
structure SV where
 a1:Option Addr
 c1:Nat
 a2:Option Addr
 c2:Nat
 a3:Option Addr
 c3:Nat
 a4:Option Addr
 c4:Nat
def SV.mv (s:SV) (M:A9):MV:=⟨.slice s.a1 M.mem.length s.c1,.slice s.a2 M.pend.length s.c2,.slice s.a3 M.tlb.length s.c3,.slice s.a4 M.wc.length s.c4⟩
abbrev MA (s:SV) (M:A9):Value:=.agg #[.slice s.a1 M.mem.length s.c1,.slice s.a2 M.pend.length s.c2,.slice s.a3 M.tlb.length s.c3,.slice s.a4 M.wc.length s.c4]
abbrev MC (w:World) (B:Nat) (s:SV) (M:A9):Prop:=w.cell? ⟨B,0,none⟩=some (.slice s.a1 M.mem.length s.c1)/\w.cell? ⟨B,1,none⟩=some (.slice s.a2 M.pend.length s.c2)/\w.cell? ⟨B,2,none⟩=some (.slice s.a3 M.tlb.length s.c3)/\w.cell? ⟨B,3,none⟩=some (.slice s.a4 M.wc.length s.c4)
theorem AB.sv{W:World}{b:Nat}{m:MV}{M:A9}(h:AB W b m M):∃s:SV,m=s.mv M:=by
 obtain⟨a1,c1,e1,_⟩:=h.w.form;obtain⟨a2,c2,e2,_⟩:=h.p.form;obtain⟨a3,c3,e3,_⟩:=h.t.form;obtain⟨a4,c4,e4,_⟩:=h.c.form;obtain⟨x,y,z,t⟩:=m;exact⟨⟨a1,c1,a2,c2,a3,c3,a4,c4⟩,by simp only at e1 e2 e3 e4;rw[e1,e2,e3,e4];rfl⟩
theorem EC(s:SV)(M:A9)(w:World)(hs:M.Small)(h:Ew w (s.mv M) M):Calls prog 8 #[.agg #[.slice s.a1 M.mem.length s.c1,.slice s.a2 M.pend.length s.c2,.slice s.a3 M.tlb.length s.c3,.slice s.a4 M.wc.length s.c4]] w fun e w'=>∃s':SV,e=.returned (.agg #[.slice s'.a1 M.mem.length s'.c1,.slice s'.a2 M.pend.length s'.c2,.slice s'.a3 M.tlb.length s'.c3,.slice s'.a4 M.wc.length s'.c4])/\AB w' w.heap.size (s'.mv M) M/\(s'.mv M).apart/\Below w.heap.size w w':=by
 refine(Gj (s.mv M) M w hs h).mono ?_;rintro e w' ⟨m',rfl,h1,h2,h3⟩;obtain⟨s',rfl⟩:=h1.sv;exact⟨s',rfl,h1,h2,h3⟩
theorem Kj:prog.cellsOf 29=4:=by kernel_rfl
structure H6 (M:A9):Prop where
 w:M.mem.length<=9223372036854775807
 p:M.pend.length<=9223372036854775807
 t:M.tlb.length<=9223372036854775807
 c:M.wc.length<=9223372036854775807
 word:∀i,0<=M.mem.getD i 0/\M.mem.getD i 0<2 ^ 64
 pend:∀i,i<M.pend.length->I3 (A8 AA M.pend i)
 tlb:∀i,i<M.tlb.length->M5 (A8 A7 M.tlb i)
 wc:∀i,i<M.wc.length->NM (A8 AJ M.wc i)
theorem K6:prog.cellsOf 46=1:=by kernel_rfl
theorem NK{H:Type}{enc:TypeId×Value->H}{W:World}{sp:Nat->Bool}(n:Nat)(cs:List Value)(y:DataW H×List MemPlace)(h:DataW.trod enc prog W 0 sp true n 46 cs=some y):∃x,cs=AO.enc x/\(Lit.int .u64 x).wf=true:=by
 obtain⟨x,r,_,hw⟩:=DataW.trod_int underlying46 h;exact⟨x,r,hw⟩
set_option maxRecDepth 100000 in
theorem FZ{H:Type}{enc:TypeId×Value->H}{W:World}{r:Reach}{b0:Nat}{v:Value}{d:DataW H}{p:List MemPlace}(hv:Value.okWide prog W r b0 29 v)(h:DataW.Trod enc prog W 0 (fun _=>true) true 29 v d p):∃(s:SV) (M:A9),v=.agg #[.slice s.a1 M.mem.length s.c1,.slice s.a2 M.pend.length s.c2,.slice s.a3 M.tlb.length s.c3,.slice s.a4 M.wc.length s.c4]/\H6 M/\Ew W (s.mv M) M:=by
 obtain⟨cs,rfl,hsz⟩:=okWide_struct underlying29 hv;obtain⟨l⟩:=cs;obtain⟨u1,u2,u3,u4,rfl⟩:=KQ (hsz.trans Kj);obtain⟨fuel,hf⟩:=h;obtain⟨xs,m,_,_,hl,hlen,hfs⟩:=DataW.trod_struct underlying29 hf;have e0:∃z,xs[0]?=some z:=⟨_,List.getElem?_eq_getElem (by rw[hlen];decide)⟩
 have e1:∃z,xs[1]?=some z:=⟨_,List.getElem?_eq_getElem (by rw[hlen];decide)⟩
 have e2:∃z,xs[2]?=some z:=⟨_,List.getElem?_eq_getElem (by rw[hlen];decide)⟩
 have e3:∃z,xs[3]?=some z:=⟨_,List.getElem?_eq_getElem (by rw[hlen];decide)⟩
 obtain⟨y0,e0⟩:=e0;obtain⟨y1,e1⟩:=e1;obtain⟨y2,e2⟩:=e2;obtain⟨y3,e3⟩:=e3;have h0:DataW.trod enc prog W 0 (fun _=>true) true m 24 [u1]=xs[0]?:=hfs 0 _ rfl;have h1:DataW.trod enc prog W 0 (fun _=>true) true m 25 [u2]=xs[1]?:=hfs 1 _ rfl;have h2:DataW.trod enc prog W 0 (fun _=>true) true m 26 [u3]=xs[2]?:=hfs 2 _ rfl;have h3:DataW.trod enc prog W 0 (fun _=>true) true m 27 [u4]=xs[3]?:=hfs 3 _ rfl;rw[e0] at h0;rw[e1] at h1;rw[e2] at h2;rw[e3] at h3;obtain⟨y,m',_,_,hy⟩:=trod_struct1 underlying24 h0;have hy':DataW.trod enc prog W 0 (fun _=>true) true m' 22 [u1]=some y:=hy;obtain⟨zs,q1,q2,q3⟩:=DA AO (fun x=>(Lit.int .u64 x).wf=true) underlying22 K6 NK hy';obtain⟨ps,r1,r2,r3⟩:=DA AA I3 underlying25 GJ Mk h1;obtain⟨ts,s1,s2,s3⟩:=DA A7 M5 underlying26 JL Nc h2;obtain⟨ws,t1,t2,t3⟩:=DA AJ NM underlying27 KK Nk h3;obtain⟨a1,c1,rfl,g1⟩:=q1;obtain⟨a2,c2,rfl,g2⟩:=r1;obtain⟨a3,c3,rfl,g3⟩:=s1;obtain⟨a4,c4,rfl,g4⟩:=t1;refine⟨⟨a1,c1,a2,c2,a3,c3,a4,c4⟩,⟨zs,ps,ts,ws⟩,rfl,⟨q2,r2,s2,t2,fun i=>?_,r3,s3,t3⟩,⟨?_,⟨a2,c2,rfl,g2⟩,⟨a3,c3,rfl,g3⟩,⟨a4,c4,rfl,g4⟩⟩⟩
 ·show 0<=zs.getD i 0/\zs.getD i 0<2 ^ 64;by_cases hi:i<zs.length
  ·have hw:(Lit.int .u64 (zs.getD i 0)).wf=true:=q3 i hi;have:=bounds_u64 hw;omega
  ·rw[List.getD_eq_getElem?_getD,List.getElem?_eq_none (by omega)];simp
 ·refine⟨a1,c1,rfl,fun h0=>?_⟩;obtain⟨b,o,e,hb,hc⟩:=g1 h0;refine⟨b,o,e,hb,fun i hi=>?_⟩;have:=hc i hi 0 (by decide);simpa [AO,AL,A8] using this
theorem MG:(prog.info? 46).map (fun i=>(i.zero,i.size,i.bytes))=some (some (.int .u64 0),1,8):=by kernel_rfl
theorem Fl(v:Value)(zs:List Int)(b:Nat)(w:World)(hn:zs.length<=1048576)(hv:A6 AO w b v zs):Calls prog 89 #[.agg #[v]] w fun e w'=>∃g c,e=.returned (.agg #[.slice (some ⟨g,0,none⟩) zs.length c])/\A6 AO w' w.heap.size (.slice (some ⟨g,0,none⟩) zs.length c) zs/\Below w.heap.size w w':=by
 obtain⟨a,c,rfl,ha⟩:=Be hv;obtain⟨i0,hi,hz0,hz1,hz2⟩:=info_parts MG;obtain⟨wb,hwb⟩:∃wb,wb=(w.alloc (.cells #[.slice a zs.length c] 31)).alloc (.cells #[.slice none 0 0] 31):=⟨_,rfl⟩
 have hbb:Below w.heap.size w wb:=by rw[hwb];exact((Below.refl _ _).alloc (Nat.le_refl _) _).alloc (by simp) _
 have hzb:wb.heap.size=w.heap.size+2:=by rw[hwb];simp
 have q0:wb.cell? ⟨w.heap.size,0,none⟩=some (.slice a zs.length c):=by rw[hwb];simp[go_sem]
 have q1:wb.cell? ⟨w.heap.size+1,0,none⟩=some (.slice none 0 0):=by rw[hwb];simp[go_sem]
 have f1:wb.frozen? ⟨w.heap.size+1,0,none⟩=false:=by rw[hwb];simp[go_sem]
 have he:=A6.empty AO wb (w.heap.size+2) (by omega);have HQ:Hid (wb.cell? ⟨w.heap.size,0,none⟩=some (.slice a zs.length c)/\wb.cell? ⟨w.heap.size+1,0,none⟩=some (.slice none 0 0)/\wb.frozen? ⟨w.heap.size+1,0,none⟩=false):=⟨q0,q1,f1⟩;have HWB:Hid (wb=_):=hwb;have HBB:Hid (Below _ w wb):=hbb;have HE:Hid (A6 _ _ _ _ _):=he;have HZ:Hid (wb.heap.size=w.heap.size+2):=hzb;clear hwb hbb q0 q1 f1 he hzb hv;go_enter func89,ntmps89
 go_wp2_with fail
 go_loopw [3,4] (fun vv iv wr=>∃t gv cv:Nat,t<=zs.length/\iv=.int .i64 t/\vv=.slice (some ⟨gv,0,none⟩) t cv/\A6 AO wr (w.heap.size+2) (.slice (some ⟨gv,0,none⟩) t cv) (zs.take t)/\Below (w.heap.size+2) wb wr) (fun _ iv _=>zs.length-(intOf iv).toNat)
 case atStart =>
  refine⟨0,w.heap.size+1+1,0,Nat.zero_le _,rfl,rfl,?_,?_⟩
  ·have h:=HE.out;rw[HZ.out,HWB.out] at h;exact h
  ·rw[HWB.out];exact(Below.refl (w.heap.size+2) _).alloc (by simp) _
 case round =>
  obtain⟨t,gv,cv,ht,rfl,rfl,hrow,hb⟩:=hrel;have hz:=HZ.out;have hsz:=hb.size;obtain⟨q0,q1,f1⟩:=HQ.out;by_cases hlt:t<zs.length
  ·obtain⟨g,N,f,rfl,_,hr,hN,hf⟩:=ha (by omega);have hb2:Below w.heap.size w wr:=HBB.out.trans (hb.mono (by omega));have hr1:wr.rowIs g 46 N f:=hr.of_block (hb2.block g hr.lt);have c1:=hr1.cell (i:=t) (by omega);rw[hf t hlt] at c1;have c0:=(hb.cell (p:=⟨w.heap.size,0,none⟩) (by simp)).trans q0;have hgl:=hr1.lt;have hec:AO.enc (A8 AO zs t)=[.int .u64 (zs.getD t 0)]:=rfl;generalize zs.getD t 0=A at *;(have L1:(0:Int)<=(t:Int):=by omega);(have L2:(t:Int)<(zs.length:Int):=by omega);have HROW:Hid (A6 _ wr _ _ _):=hrow;have HB:Hid (Below _ wb wr):=hb;have HEC:Hid _:=hec;(have htl:(zs.take t).length=t:=by rw[List.length_take];omega);have hown:wr.ownsRow (w.heap.size+2) 46 1 (.slice (some ⟨gv,0,none⟩) t cv) t (AF AO (zs.take t)):=by
    have h:=hrow;unfold A6 at h;rw[htl] at h;exact h
   have HOWN:Hid _:=hown;clear hrow hb hb2 hr1 hr hf hec q0 q1 f1 htl hown ha;(go_wp2_with (at_builtin;refine wpList_append_lies _ rfl (.tmp 13) (.tmp 19) 22 rfl (w.heap.size+2) 46 i0 _ 1 8 underlying22 hi hz0 hz1 hz2 rfl (by omega) _ _ _ rfl (World.ownsRow.alloc HOWN.out _) ⟨wr.heap.size,0,none⟩ 1 1 [.int .u64 A] rfl rfl ?c1 ?c2 (by omega) ?c3 ?c4 ?c5 (wr.heap.size+1) ?c6 ?_));(case c1=>exact World.news_of_block (heap_alloc_new wr (.cells #[.int .u64 A] 46)));(case c2=>intro u hu;simp at hu;subst hu;rfl);(case c3=>unfold maxLen;omega);(case c4=>omega);(case c5=>simp;omega);(case c6=>simp);intro g1 cap1 wn hown hgrow hat hlt3;have hnew:A6 AO wn (w.heap.size+2) (.slice (some ⟨g1,0,none⟩) (t+1) cap1) (zs.take (t+1)):=A6.snoc (m:=t+1) hlt rfl (by rw[HEC.out];exact hown);have hbn:Below (w.heap.size+2) wb wn:=((HB.out.alloc (by omega) _).grown hgrow (by simp;omega) (fun q hq=>(HROW.out.own q hq).1));clear hown hgrow hat c1 c0;(go_wp2_with fail);go_roundw;(case rel=>exact⟨t+1,g1,cap1,by omega,by go_num,rfl,hnew,hbn⟩);case measure=>simp[intOf];omega
  ·(have e:t=zs.length:=by omega);subst e;rw[List.take_length] at hrow;have c0:=(hb.cell (p:=⟨w.heap.size,0,none⟩) (by simp)).trans q0;have c1:=(hb.cell (p:=⟨w.heap.size+1,0,none⟩) (by simp)).trans q1;have f1':=(hb.frozen (p:=⟨w.heap.size+1,0,none⟩) (by simp)).trans f1;have hown:=hrow.own gv rfl;have HROW:Hid (A6 _ wr _ _ _):=hrow;have HB:Hid (Below _ wb wr):=hb;clear hrow hb ha;(go_wp2_with fail);refine bodyPost_ret (v:=.agg #[.slice (some ⟨gv,0,none⟩) zs.length cv]) (by simp[results,results89,go_sem,c1]) rfl ⟨gv,cv,rfl,?_,?_⟩
   ·have T:A5 (fun k=>k=w.heap.size+1) wr (wr.setCell ⟨w.heap.size+1,0,none⟩ (.slice (some ⟨gv,0,none⟩) zs.length cv)):=⟨rfl,rfl,rfl,by simp,fun k hk hn=>Below.heap_setCell _ _ _ _ hn⟩;refine A6.rebase (HROW.out.touch T ?_) (by omega:w.heap.size<=w.heap.size+2);intro k hk hx;simp[Value.ownBlock] at hk;omega
   ·exact HBB.out.trans ((HB.out.mono (by omega)).setCell (by simp) _)
theorem BX(s:SV)(M:A9)(b:Nat)(w:World)(hs:M.Small)(h:AB w b (s.mv M) M):Calls prog 40 #[.agg #[.slice s.a1 M.mem.length s.c1,.slice s.a2 M.pend.length s.c2,.slice s.a3 M.tlb.length s.c3,.slice s.a4 M.wc.length s.c4]] w fun e w'=>∃s':SV,e=.returned (.agg #[.slice s'.a1 M.mem.length s'.c1,.slice s'.a2 M.pend.length s'.c2,.slice s'.a3 M.tlb.length s'.c3,.slice s'.a4 M.wc.length s'.c4])/\AB w' w.heap.size (s'.mv M) M/\(s'.mv M).apart/\Below w.heap.size w w':=by
 have y1:=hs.w;have y2:=hs.p;have y3:=hs.t;have y4:=hs.c;obtain⟨iW,hiW,hzW0,hzW1,hzW2⟩:=info_parts Da;obtain⟨iT,hiT,hzT0,hzT1,hzT2⟩:=info_parts DP;obtain⟨iC,hiC,hzC0,hzC1,hzC2⟩:=info_parts Ei;obtain⟨wb,hwb⟩:∃wb,wb=(w.alloc (.cells #[.slice s.a1 M.mem.length s.c1,.slice s.a2 M.pend.length s.c2,.slice s.a3 M.tlb.length s.c3,.slice s.a4 M.wc.length s.c4] 36)).alloc (.cells #[.slice none 0 0,.slice none 0 0,.slice none 0 0,.slice none 0 0] 36):=⟨_,rfl⟩
 have hbb:Below w.heap.size w wb:=by rw[hwb];exact((Below.refl _ _).alloc (Nat.le_refl _) _).alloc (by simp) _
 have hzb:wb.heap.size=w.heap.size+2:=by rw[hwb];simp
 have qb:wb.cell? ⟨w.heap.size,0,none⟩=some (.slice s.a1 M.mem.length s.c1)/\wb.cell? ⟨w.heap.size,1,none⟩=some (.slice s.a2 M.pend.length s.c2)/\wb.cell? ⟨w.heap.size,2,none⟩=some (.slice s.a3 M.tlb.length s.c3)/\wb.cell? ⟨w.heap.size,3,none⟩=some (.slice s.a4 M.wc.length s.c4):=by rw[hwb];simp[go_sem]
 have rb:wb.cell? ⟨w.heap.size+1,0,none⟩=some (.slice none 0 0)/\wb.frozen? ⟨w.heap.size+1,0,none⟩=false/\wb.cell? ⟨w.heap.size+1,1,none⟩=some (.slice none 0 0)/\wb.frozen? ⟨w.heap.size+1,1,none⟩=false/\wb.cell? ⟨w.heap.size+1,2,none⟩=some (.slice none 0 0)/\wb.frozen? ⟨w.heap.size+1,2,none⟩=false/\wb.cell? ⟨w.heap.size+1,3,none⟩=some (.slice none 0 0)/\wb.frozen? ⟨w.heap.size+1,3,none⟩=false:=by rw[hwb];simp[go_sem]
 have he:=A6.empty AA wb (w.heap.size+2) (by omega);have HBOX:Hid (∀wX,Below (w.heap.size+2) wb wX->wX.cell? ⟨w.heap.size,0,none⟩=some (.slice s.a1 M.mem.length s.c1)/\wX.cell? ⟨w.heap.size,1,none⟩=some (.slice s.a2 M.pend.length s.c2)/\wX.cell? ⟨w.heap.size,2,none⟩=some (.slice s.a3 M.tlb.length s.c3)/\wX.cell? ⟨w.heap.size,3,none⟩=some (.slice s.a4 M.wc.length s.c4)) :=
  fun wX hX=>⟨(hX.cell (by simp)).trans qb.1,(hX.cell (by simp)).trans qb.2.1,(hX.cell (by simp)).trans qb.2.2.1,(hX.cell (by simp)).trans qb.2.2.2⟩
 have HRES:Hid (∀wX,Below (w.heap.size+2) wb wX->wX.cell? ⟨w.heap.size+1,0,none⟩=some (.slice none 0 0)/\wX.frozen? ⟨w.heap.size+1,0,none⟩=false/\wX.cell? ⟨w.heap.size+1,1,none⟩=some (.slice none 0 0)/\wX.frozen? ⟨w.heap.size+1,1,none⟩=false/\wX.cell? ⟨w.heap.size+1,2,none⟩=some (.slice none 0 0)/\wX.frozen? ⟨w.heap.size+1,2,none⟩=false/\wX.cell? ⟨w.heap.size+1,3,none⟩=some (.slice none 0 0)/\wX.frozen? ⟨w.heap.size+1,3,none⟩=false):=fun wX hX=>by
  obtain⟨a,b,c,d,e,f,g,h⟩:=rb;exact⟨(hX.cell (by simp)).trans a,(hX.frozen (by simp)).trans b,(hX.cell (by simp)).trans c,(hX.frozen (by simp)).trans d,(hX.cell (by simp)).trans e,(hX.frozen (by simp)).trans f,(hX.cell (by simp)).trans g,(hX.frozen (by simp)).trans h⟩
 have HM:Hid (AB w b (s.mv M) M):=h;have HWB:Hid (wb=_):=hwb;have HBB:Hid (Below _ w wb):=hbb;have HE:Hid (A6 _ _ _ _ _):=he;have HZ:Hid (wb.heap.size=w.heap.size+2):=hzb;clear hwb hbb qb rb he hzb h;go_enter func40,ntmps40
 go_wp2_with fail
 have BW1:Below (w.heap.size+2) wb wb:=Below.refl _ _;go_loopw [3,4] (fun vv iv wr=>∃t gv cv:Nat,t<=M.pend.length/\iv=.int .i64 t/\vv=.slice (some ⟨gv,0,none⟩) t cv/\A6 AA wr (w.heap.size+2) (.slice (some ⟨gv,0,none⟩) t cv) (M.pend.take t)/\Below (w.heap.size+2) wb wr) (fun _ iv _=>M.pend.length-(intOf iv).toNat)
 case atStart =>
  refine⟨0,w.heap.size+1+1,0,Nat.zero_le _,rfl,rfl,?_,?_⟩
  ·have h:=HE.out;rw[HZ.out,HWB.out] at h;exact h
  ·rw[HWB.out];exact(Below.refl (w.heap.size+2) _).alloc (by simp) _
 case round =>
  obtain⟨t,gv,cv,ht,rfl,rfl,hrow,hb⟩:=hrel;have hbb2:Below (w.heap.size+2) wb wr:=BW1.trans (hb.mono (by omega));have hsz:=hb.size;have hzz:=HZ.out;obtain⟨q0,q1,q2,q3⟩:=HBOX.out wr hbb2;by_cases hlt:t<M.pend.length
  ·obtain⟨ga,ca,hae,haf⟩:=HM.out.p.form;obtain⟨g,N,f,hag,_,hr,hN,hf⟩:=haf (by omega);have hga:s.a2=some ⟨g,0,none⟩:=by
    have h2:Value.slice s.a2 M.pend.length s.c2=.slice ga M.pend.length ca:=hae;simp only[Value.slice.injEq] at h2;exact h2.1.trans hag
   have hN':M.pend.length*2<=N:=hN;have hb2:Below w.heap.size w wr:=HBB.out.trans (hbb2.mono (by omega));have hr1:wr.rowIs g 110 N f:=hr.of_block (hb2.block g hr.lt);rw[hga] at q1;have k0:=hr1.cell (i:=t*2) (by omega);rw[show f (t*2)=.int .i64 (A8 AA M.pend t).addr from hf t hlt 0 (by decide)] at k0;have k1:=hr1.cell (i:=t*2+1) (by omega);rw[show f (t*2+1)=.int .u64 (A8 AA M.pend t).word from hf t hlt 1 (by decide)] at k1;have hec:AA.enc (A8 AA M.pend t)=[.int .i64 (A8 AA M.pend t).addr,.int .u64 (A8 AA M.pend t).word]:=rfl;generalize (A8 AA M.pend t).addr=A at *;generalize (A8 AA M.pend t).word=B at *;have hgl:=hr1.lt;(have L1:(0:Int)<=(t:Int):=by omega);(have L2:(t:Int)<(M.pend.length:Int):=by omega);have HROW:Hid (A6 _ wr _ _ _):=hrow;have HB:Hid (Below _ wb wr):=hb;have HEC:Hid _:=hec;(have htl:(M.pend.take t).length=t:=by rw[List.length_take];omega);have hown:wr.ownsRow (w.heap.size+2) 110 2 (.slice (some ⟨gv,0,none⟩) t cv) t (AF AA (M.pend.take t)):=by
    have h:=hrow;unfold A6 at h;rw[htl] at h;exact h
   have HOWN:Hid _:=hown;clear hrow hb hb2 hbb2 hr1 hr hf hec htl hown hae haf hga hN;(go_wp2_with (at_builtin;refine wpList_append_lies _ rfl (.tmp 17) (.tmp 23) 32 rfl (w.heap.size+2) 110 iW _ 2 16 underlying32 hiW hzW0 hzW1 hzW2 rfl (by omega) _ _ _ rfl (World.ownsRow.alloc HOWN.out _) ⟨wr.heap.size,0,none⟩ 1 1 [.int .i64 A,.int .u64 B] rfl rfl ?c1 ?c2 (by omega) ?c3 ?c4 ?c5 (wr.heap.size+1) ?c6 ?_));(case c1=>exact World.news_of_block (heap_alloc_new wr (.cells #[.int .i64 A,.int .u64 B] 110)));(case c2=>intro u hu;simp at hu;rcases hu with rfl|rfl<;>rfl);(case c3=>unfold maxLen;omega);(case c4=>omega);(case c5=>simp;omega);(case c6=>simp);intro g1 cap1 wn hown hgrow hat hlt3;have hnew:A6 AA wn (w.heap.size+2) (.slice (some ⟨g1,0,none⟩) (t+1) cap1) (M.pend.take (t+1)):=A6.snoc (m:=t+1) hlt rfl (by rw[HEC.out];exact hown);have hbn:Below (w.heap.size+2) wb wn:=((HB.out.alloc (by omega) _).grown hgrow (by simp;omega) (fun q hq=>(HROW.out.own q hq).1));clear hown hgrow hat k0 k1 q0 q1 q2 q3;(go_wp2_with fail);go_roundw;(case rel=>exact⟨t+1,g1,cap1,by omega,by go_num,rfl,hnew,hbn⟩);case measure=>simp[intOf];omega
  ·(have e:t=M.pend.length:=by omega);subst e;rw[List.take_length] at hrow;(obtain⟨w1,rfl⟩:∃w1:World,w1=wr:=⟨_,rfl⟩);(obtain⟨g1,rfl⟩:∃g1:Nat,g1=gv:=⟨_,rfl⟩);(obtain⟨cc1,rfl⟩:∃cc1:Nat,cc1=cv:=⟨_,rfl⟩);have own1:=hrow.own g1 rfl;have HROW1:Hid (A6 AA w1 (w.heap.size+2) _ _):=hrow;have HB1:Hid (Below (w.heap.size+2) wb w1):=hb;have BW2:Below (w.heap.size+2) wb w1:=hbb2;(have S1:w.heap.size+2<=w1.heap.size:=by omega);clear hrow hb hbb2;(go_wp2_with fail);clear q0 q1 q2 q3;(go_loopw [5,6] (fun vv iv wr=>∃t gv cv:Nat,t<=M.tlb.length/\iv=.int .i64 t/\vv=.slice (some ⟨gv,0,none⟩) t cv/\A6 A7 wr (w1.heap.size) (.slice (some ⟨gv,0,none⟩) t cv) (M.tlb.take t)/\Below (w1.heap.size) w1 wr) (fun _ iv _=>M.tlb.length-(intOf iv).toNat));case atStart =>
    exact⟨0,w1.heap.size,0,Nat.zero_le _,rfl,rfl,A6.empty A7 w1 w1.heap.size (Nat.le_refl _),(Below.refl w1.heap.size w1).alloc (Nat.le_refl _) _⟩
   case round =>
    obtain⟨t,gv,cv,ht,rfl,rfl,hrow,hb⟩:=hrel;have hbb2:Below (w.heap.size+2) wb wr:=BW2.trans (hb.mono (by omega));have hsz:=hb.size;have hzz:=HZ.out;obtain⟨q0,q1,q2,q3⟩:=HBOX.out wr hbb2;by_cases hlt:t<M.tlb.length
    ·obtain⟨ga,ca,hae,haf⟩:=HM.out.t.form;obtain⟨g,N,f,hag,_,hr,hN,hf⟩:=haf (by omega);have hga:s.a3=some ⟨g,0,none⟩:=by
      have h2:Value.slice s.a3 M.tlb.length s.c3=.slice ga M.tlb.length ca:=hae;simp only[Value.slice.injEq] at h2;exact h2.1.trans hag
     have hN':M.tlb.length*5<=N:=hN;have hb2:Below w.heap.size w wr:=HBB.out.trans (hbb2.mono (by omega));have hr1:wr.rowIs g 81 N f:=hr.of_block (hb2.block g hr.lt);rw[hga] at q2;have k0:=hr1.cell (i:=t*5) (by omega);rw[show f (t*5)=.int .i64 (A8 A7 M.tlb t).page from hf t hlt 0 (by decide)] at k0;have k1:=hr1.cell (i:=t*5+1) (by omega);rw[show f (t*5+1)=.int .i64 (A8 A7 M.tlb t).size from hf t hlt 1 (by decide)] at k1;have k2:=hr1.cell (i:=t*5+2) (by omega);rw[show f (t*5+2)=.int .i64 (A8 A7 M.tlb t).out from hf t hlt 2 (by decide)] at k2;have k3:=hr1.cell (i:=t*5+3) (by omega);rw[show f (t*5+3)=.int .i64 (A8 A7 M.tlb t).perm from hf t hlt 3 (by decide)] at k3;have k4:=hr1.cell (i:=t*5+4) (by omega);rw[show f (t*5+4)=.bool (A8 A7 M.tlb t).doom from hf t hlt 4 (by decide)] at k4;have hec:A7.enc (A8 A7 M.tlb t)=[.int .i64 (A8 A7 M.tlb t).page,.int .i64 (A8 A7 M.tlb t).size,.int .i64 (A8 A7 M.tlb t).out,.int .i64 (A8 A7 M.tlb t).perm,.bool (A8 A7 M.tlb t).doom]:=rfl;generalize (A8 A7 M.tlb t).page=A at *;generalize (A8 A7 M.tlb t).size=B at *;generalize (A8 A7 M.tlb t).out=C at *;generalize (A8 A7 M.tlb t).perm=D at *;generalize (A8 A7 M.tlb t).doom=G at *;have hgl:=hr1.lt;(have L1:(0:Int)<=(t:Int):=by omega);(have L2:(t:Int)<(M.tlb.length:Int):=by omega);have HROW:Hid (A6 _ wr _ _ _):=hrow;have HB:Hid (Below _ w1 wr):=hb;have HEC:Hid _:=hec;(have htl:(M.tlb.take t).length=t:=by rw[List.length_take];omega);have hown:wr.ownsRow (w1.heap.size) 81 5 (.slice (some ⟨gv,0,none⟩) t cv) t (AF A7 (M.tlb.take t)):=by
      have h:=hrow;unfold A6 at h;rw[htl] at h;exact h
     have HOWN:Hid _:=hown;clear hrow hb hb2 hbb2 hr1 hr hf hec htl hown hae haf hga hN;(go_wp2_with (at_builtin;refine wpList_append_lies _ rfl (.tmp 33) (.tmp 39) 33 rfl (w1.heap.size) 81 iT _ 5 40 underlying33 hiT hzT0 hzT1 hzT2 rfl (by omega) _ _ _ rfl (World.ownsRow.alloc HOWN.out _) ⟨wr.heap.size,0,none⟩ 1 1 [.int .i64 A,.int .i64 B,.int .i64 C,.int .i64 D,.bool G] rfl rfl ?c1 ?c2 (by omega) ?c3 ?c4 ?c5 (wr.heap.size+1) ?c6 ?_));(case c1=>exact World.news_of_block (heap_alloc_new wr (.cells #[.int .i64 A,.int .i64 B,.int .i64 C,.int .i64 D,.bool G] 81)));(case c2=>intro u hu;simp at hu;rcases hu with rfl|rfl|rfl|rfl|rfl<;>rfl);(case c3=>unfold maxLen;omega);(case c4=>omega);(case c5=>simp;omega);(case c6=>simp);intro g1 cap1 wn hown hgrow hat hlt3;have hnew:A6 A7 wn (w1.heap.size) (.slice (some ⟨g1,0,none⟩) (t+1) cap1) (M.tlb.take (t+1)):=A6.snoc (m:=t+1) hlt rfl (by rw[HEC.out];exact hown);have hbn:Below (w1.heap.size) w1 wn:=((HB.out.alloc (by omega) _).grown hgrow (by simp;omega) (fun q hq=>(HROW.out.own q hq).1));clear hown hgrow hat k0 k1 k2 k3 k4 q0 q1 q2 q3;(go_wp2_with fail);go_roundw;(case rel=>exact⟨t+1,g1,cap1,by omega,by go_num,rfl,hnew,hbn⟩);case measure=>simp[intOf];omega
    ·(have e:t=M.tlb.length:=by omega);subst e;rw[List.take_length] at hrow;(obtain⟨w2,rfl⟩:∃w2:World,w2=wr:=⟨_,rfl⟩);(obtain⟨g2,rfl⟩:∃g2:Nat,g2=gv:=⟨_,rfl⟩);(obtain⟨cc2,rfl⟩:∃cc2:Nat,cc2=cv:=⟨_,rfl⟩);have own2:=hrow.own g2 rfl;have HROW2:Hid (A6 A7 w2 (w1.heap.size) _ _):=hrow;have HB2:Hid (Below (w1.heap.size) w1 w2):=hb;have BW3:Below (w.heap.size+2) wb w2:=hbb2;(have S2:w.heap.size+2<=w2.heap.size:=by omega);clear hrow hb hbb2;(go_wp2_with fail);clear q0 q1 q2 q3;(go_loopw [7,8] (fun vv iv wr=>∃t gv cv:Nat,t<=M.wc.length/\iv=.int .i64 t/\vv=.slice (some ⟨gv,0,none⟩) t cv/\A6 AJ wr (w2.heap.size) (.slice (some ⟨gv,0,none⟩) t cv) (M.wc.take t)/\Below (w2.heap.size) w2 wr) (fun _ iv _=>M.wc.length-(intOf iv).toNat));case atStart =>
      exact⟨0,w2.heap.size,0,Nat.zero_le _,rfl,rfl,A6.empty AJ w2 w2.heap.size (Nat.le_refl _),(Below.refl w2.heap.size w2).alloc (Nat.le_refl _) _⟩
     case round =>
      obtain⟨t,gv,cv,ht,rfl,rfl,hrow,hb⟩:=hrel;have hbb2:Below (w.heap.size+2) wb wr:=BW3.trans (hb.mono (by omega));have hsz:=hb.size;have hzz:=HZ.out;obtain⟨q0,q1,q2,q3⟩:=HBOX.out wr hbb2;by_cases hlt:t<M.wc.length
      ·obtain⟨ga,ca,hae,haf⟩:=HM.out.c.form;obtain⟨g,N,f,hag,_,hr,hN,hf⟩:=haf (by omega);have hga:s.a4=some ⟨g,0,none⟩:=by
        have h2:Value.slice s.a4 M.wc.length s.c4=.slice ga M.wc.length ca:=hae;simp only[Value.slice.injEq] at h2;exact h2.1.trans hag
       have hN':M.wc.length*4<=N:=hN;have hb2:Below w.heap.size w wr:=HBB.out.trans (hbb2.mono (by omega));have hr1:wr.rowIs g 113 N f:=hr.of_block (hb2.block g hr.lt);rw[hga] at q3;have k0:=hr1.cell (i:=t*4) (by omega);rw[show f (t*4)=.int .i64 (A8 AJ M.wc t).level from hf t hlt 0 (by decide)] at k0;have k1:=hr1.cell (i:=t*4+1) (by omega);rw[show f (t*4+1)=.int .i64 (A8 AJ M.wc t).page from hf t hlt 1 (by decide)] at k1;have k2:=hr1.cell (i:=t*4+2) (by omega);rw[show f (t*4+2)=.int .i64 (A8 AJ M.wc t).table from hf t hlt 2 (by decide)] at k2;have k3:=hr1.cell (i:=t*4+3) (by omega);rw[show f (t*4+3)=.bool (A8 AJ M.wc t).doom from hf t hlt 3 (by decide)] at k3;have hec:AJ.enc (A8 AJ M.wc t)=[.int .i64 (A8 AJ M.wc t).level,.int .i64 (A8 AJ M.wc t).page,.int .i64 (A8 AJ M.wc t).table,.bool (A8 AJ M.wc t).doom]:=rfl;generalize (A8 AJ M.wc t).level=A at *;generalize (A8 AJ M.wc t).page=B at *;generalize (A8 AJ M.wc t).table=C at *;generalize (A8 AJ M.wc t).doom=D at *;have hgl:=hr1.lt;(have L1:(0:Int)<=(t:Int):=by omega);(have L2:(t:Int)<(M.wc.length:Int):=by omega);have HROW:Hid (A6 _ wr _ _ _):=hrow;have HB:Hid (Below _ w2 wr):=hb;have HEC:Hid _:=hec;(have htl:(M.wc.take t).length=t:=by rw[List.length_take];omega);have hown:wr.ownsRow (w2.heap.size) 113 4 (.slice (some ⟨gv,0,none⟩) t cv) t (AF AJ (M.wc.take t)):=by
        have h:=hrow;unfold A6 at h;rw[htl] at h;exact h
       have HOWN:Hid _:=hown;clear hrow hb hb2 hbb2 hr1 hr hf hec htl hown hae haf hga hN;(go_wp2_with (at_builtin;refine wpList_append_lies _ rfl (.tmp 49) (.tmp 55) 34 rfl (w2.heap.size) 113 iC _ 4 32 underlying34 hiC hzC0 hzC1 hzC2 rfl (by omega) _ _ _ rfl (World.ownsRow.alloc HOWN.out _) ⟨wr.heap.size,0,none⟩ 1 1 [.int .i64 A,.int .i64 B,.int .i64 C,.bool D] rfl rfl ?c1 ?c2 (by omega) ?c3 ?c4 ?c5 (wr.heap.size+1) ?c6 ?_));(case c1=>exact World.news_of_block (heap_alloc_new wr (.cells #[.int .i64 A,.int .i64 B,.int .i64 C,.bool D] 113)));(case c2=>intro u hu;simp at hu;rcases hu with rfl|rfl|rfl|rfl<;>rfl);(case c3=>unfold maxLen;omega);(case c4=>omega);(case c5=>simp;omega);(case c6=>simp);intro g1 cap1 wn hown hgrow hat hlt3;have hnew:A6 AJ wn (w2.heap.size) (.slice (some ⟨g1,0,none⟩) (t+1) cap1) (M.wc.take (t+1)):=A6.snoc (m:=t+1) hlt rfl (by rw[HEC.out];exact hown);have hbn:Below (w2.heap.size) w2 wn:=((HB.out.alloc (by omega) _).grown hgrow (by simp;omega) (fun q hq=>(HROW.out.own q hq).1));clear hown hgrow hat k0 k1 k2 k3 q0 q1 q2 q3;(go_wp2_with fail);go_roundw;(case rel=>exact⟨t+1,g1,cap1,by omega,by go_num,rfl,hnew,hbn⟩);case measure=>simp[intOf];omega
      ·(have e:t=M.wc.length:=by omega);subst e;rw[List.take_length] at hrow;(obtain⟨w3,rfl⟩:∃w3:World,w3=wr:=⟨_,rfl⟩);(obtain⟨g3,rfl⟩:∃g3:Nat,g3=gv:=⟨_,rfl⟩);(obtain⟨cc3,rfl⟩:∃cc3:Nat,cc3=cv:=⟨_,rfl⟩);have own3:=hrow.own g3 rfl;have HROW3:Hid (A6 AJ w3 (w2.heap.size) _ _):=hrow;have HB3:Hid (Below (w2.heap.size) w2 w3):=hb;have BW4:Below (w.heap.size+2) wb w3:=hbb2;(have S3:w.heap.size+2<=w3.heap.size:=by omega);clear hrow hb hbb2;(go_wp2_with fail);clear q0 q1 q2 q3;have b03:Below w.heap.size w w3:=HBB.out.trans (BW4.mono (by omega));have hcm:=Fl (.slice s.a1 M.mem.length s.c1) M.mem b w3 hs.w (HM.out.w.below b03);refine hcm.mono ?_;rintro e w4 ⟨g4,cc4,rfl,hr4,hb4⟩;have s4:=hb4.size;have own4:=hr4.own g4 rfl;have BW5:Below (w.heap.size+2) wb w4:=BW4.trans (hb4.mono (by omega));obtain⟨r0,f0,r1,f1,r2,f2,r3,f3⟩:=HRES.out w4 BW5;have B24:Below w2.heap.size w2 w4:=HB3.out.trans (hb4.mono (by omega));have B14:Below w1.heap.size w1 w4:=HB2.out.trans (B24.mono (by omega));have R1:A6 AA w4 (w.heap.size+2) (.slice (some ⟨g1,0,none⟩) M.pend.length cc1) M.pend:=HROW1.out.below B14;have R2:A6 A7 w4 w1.heap.size (.slice (some ⟨g2,0,none⟩) M.tlb.length cc2) M.tlb:=HROW2.out.below B24;have R3:A6 AJ w4 w2.heap.size (.slice (some ⟨g3,0,none⟩) M.wc.length cc3) M.wc:=HROW3.out.below hb4;have HR4:Hid (AB w4 w.heap.size ⟨.slice (some ⟨g4,0,none⟩) M.mem.length cc4,.slice (some ⟨g1,0,none⟩) M.pend.length cc1,.slice (some ⟨g2,0,none⟩) M.tlb.length cc2,.slice (some ⟨g3,0,none⟩) M.wc.length cc3⟩ M):=⟨hr4.rebase (by omega),R1.rebase (by omega),R2.rebase (by omega),R3.rebase (by omega)⟩;have HB4:Hid (Below _ w w4):=HBB.out.trans (BW5.mono (by omega));clear hcm hr4 hb4 BW5 B24 B14 R1 R2 R3 b03;(go_wp2_with fail);refine bodyPost_ret (v:=.agg #[.slice (some ⟨g4,0,none⟩) M.mem.length cc4,.slice (some ⟨g1,0,none⟩) M.pend.length cc1,.slice (some ⟨g2,0,none⟩) M.tlb.length cc2,.slice (some ⟨g3,0,none⟩) M.wc.length cc3])
        (by simp[results,results40,go_sem,r0,r1,r2,r3]) rfl ⟨⟨some ⟨g4,0,none⟩,cc4,some ⟨g1,0,none⟩,cc1,some ⟨g2,0,none⟩,cc2,some ⟨g3,0,none⟩,cc3⟩,rfl,?_,?_,?_⟩
       ·refine AB.touch (S:=fun k=>k=w.heap.size+1) HR4.out ⟨rfl,rfl,rfl,by simp,fun k hk hn=>?_⟩ ?_
        ·have n2:k≠w.heap.size+1:=hn;rw[Below.heap_setCell _ _ _ _ (by exact n2),Below.heap_setCell _ _ _ _ (by exact n2),Below.heap_setCell _ _ _ _ (by exact n2),Below.heap_setCell _ _ _ _ (by exact n2)]
        ·rintro k (hk|hk|hk|hk) hx<;>simp[SV.mv,Value.ownBlock] at hk<;>(have hx':k=w.heap.size+1:=hx;omega)
       ·intro k;simp only[SV.mv,Value.ownBlock,Option.some.injEq,ne_eq];omega
       ·exact(((HB4.out.setCell (by simp) _).setCell (by simp) _).setCell (by simp) _).setCell (by simp) _
end Go.Proofs.YtnmhkgmmpkjjeabGreat
