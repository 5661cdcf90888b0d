import Derived.Test.YtnmhkgmmpkjjeaaG00
import Derived.Test.YtnmhkgmmpkjjeaaG04
import Derived.Deep.Slices
import Derived.ChangeOld
namespace Go.Proofs.Ytnmhkgmmpkjjeaa
open Go.ChangeShapes Go.WideShapes Go.ChangeAt Go.RowKit
set_option linter.unusedVariables false
attribute [local go_sem ↓] Go.wp_at_zero Go.wp_at_succ
structure WriteE where
 addr:Int
 word:Int
def eWrite:Elt WriteE:=⟨147,2,fun x=>[.int .i64 x.addr,.int .u64 x.word],⟨0,0⟩,by omega,fun _=>rfl⟩
theorem infoWrite:(Try.prog.info? 147).map (fun i=>(i.zero,i.size,i.bytes))=some (some (.agg #[.int .i64 0,.int .u64 0]),2,16):=by kernel_rfl
def markWrite (s:Int) (i j:Nat):Value :=
 match j with
 | 0=>.int .i64 (s+i * 2)
 | 1=>.int .u64 (s+i * 2+1)
 | _=>.bool false
end Go.Proofs.Ytnmhkgmmpkjjeaa
namespace Go.Proofs.Ytnmhkgmmpkjjeaa
open Go.ChangeShapes Go.WideShapes Go.ChangeAt Go.RowKit
set_option linter.unusedVariables false
attribute [local go_sem ↓] Go.wp_at_zero Go.wp_at_succ
structure TlbE where
 page:Int
 size:Int
 out:Int
 perm:Int
 doom:Bool
def eTlb:Elt TlbE:=⟨72,5,fun x=>[.int .i64 x.page,.int .i64 x.size,.int .i64 x.out,.int .i64 x.perm,.bool x.doom],⟨0,0,0,0,false⟩,by omega,fun _=>rfl⟩
theorem infoTlb:(Try.prog.info? 72).map (fun i=>(i.zero,i.size,i.bytes))=some (some (.agg #[.int .i64 0,.int .i64 0,.int .i64 0,.int .i64 0,.bool false]),5,40):=by kernel_rfl
def markTlb (s:Int) (i j:Nat):Value :=
 match j with
 | 0=>.int .i64 (s+i * 5)
 | 1=>.int .i64 (s+i * 5+1)
 | 2=>.int .i64 (s+i * 5+1+1)
 | 3=>.int .i64 (s+i * 5+1+1+1)
 | 4=>.bool ((s+i * 5+1+1+1+1) % 3 == 0)
 | _=>.bool false
end Go.Proofs.Ytnmhkgmmpkjjeaa
namespace Go.Proofs.Ytnmhkgmmpkjjeaa
open Go.ChangeShapes Go.WideShapes Go.ChangeAt Go.RowKit
set_option linter.unusedVariables false
attribute [local go_sem ↓] Go.wp_at_zero Go.wp_at_succ
structure WcE where
 level:Int
 page:Int
 table:Int
 doom:Bool
def eWc:Elt WcE:=⟨74,4,fun x=>[.int .i64 x.level,.int .i64 x.page,.int .i64 x.table,.bool x.doom],⟨0,0,0,false⟩,by omega,fun _=>rfl⟩
theorem infoWc:(Try.prog.info? 74).map (fun i=>(i.zero,i.size,i.bytes))=some (some (.agg #[.int .i64 0,.int .i64 0,.int .i64 0,.bool false]),4,32):=by kernel_rfl
def markWc (s:Int) (i j:Nat):Value :=
 match j with
 | 0=>.int .i64 (s+i * 4)
 | 1=>.int .i64 (s+i * 4+1)
 | 2=>.int .i64 (s+i * 4+1+1)
 | 3=>.bool ((s+i * 4+1+1+1) % 3 == 0)
 | _=>.bool false
end Go.Proofs.Ytnmhkgmmpkjjeaa
namespace Go.Proofs.Ytnmhkgmmpkjjeaa
open Go.ChangeShapes Go.WideShapes Go.ChangeAt Go.RowKit
set_option linter.unusedVariables false
attribute [local go_sem ↓] Go.wp_at_zero Go.wp_at_succ
structure Mach where
 mem:List Int
 pend:List WriteE
 tlb:List TlbE
 wc:List WcE
structure MV where
 w:Value
 p:Value
 t:Value
 c:Value
def MV.agg (m:MV):Value:=.agg #[m.w,m.p,m.t,m.c]
def MV.owns (m:MV) (k:Nat):Prop:=m.w.ownBlock=some k\/m.p.ownBlock=some k\/m.t.ownBlock=some k\/m.c.ownBlock=some k
def MV.apart (m:MV):Prop:=∀ k,(m.w.ownBlock=some k->m.p.ownBlock ≠ some k/\m.t.ownBlock ≠ some k/\m.c.ownBlock ≠ some k)/\(m.p.ownBlock=some k->m.t.ownBlock ≠ some k/\m.c.ownBlock ≠ some k)/\(m.t.ownBlock=some k->m.c.ownBlock ≠ some k)
structure MRow (W:World) (base:Nat) (m:MV) (M:Mach):Prop where
 w:ERow eWord W base m.w M.mem
 p:ERow eWrite W base m.p M.pend
 t:ERow eTlb W base m.t M.tlb
 c:ERow eWc W base m.c M.wc
structure MSrc (W:World) (m:MV) (M:Mach):Prop where
 w:Src W m.w M.mem
 p:ESrc eWrite W m.p M.pend
 t:ESrc eTlb W m.t M.tlb
 c:ESrc eWc W m.c M.wc
structure MHas (W:World) (m:MV) (M:Mach) (s:Int):Prop where
 w:EHas eWord W m.w M.mem.length (markWord s)
 p:EHas eWrite W m.p M.pend.length (markWrite (s+M.mem.length))
 t:EHas eTlb W m.t M.tlb.length (markTlb (s+M.mem.length+M.pend.length * 2))
 c:EHas eWc W m.c M.wc.length (markWc (s+M.mem.length+M.pend.length * 2+M.tlb.length * 5))
structure Mach.Small (M:Mach):Prop where
 w:M.mem.length<=1048576
 p:M.pend.length<=1048576
 t:M.tlb.length<=1048576
 c:M.wc.length<=1048576
structure Touch (S:Nat->Prop) (w w':World):Prop where
 os:w'.os=w.os
 tape:w'.tape=w.tape
 output:w'.output=w.output
 size:w.heap.size<=w'.heap.size
 block:∀ k,k < w.heap.size->¬ S k->w'.heap[k]?=w.heap[k]?
theorem Touch.trans {S:Nat->Prop} {a b c:World} (h:Touch S a b) (k:Touch S b c):Touch S a c :=
 ⟨k.os.trans h.os,k.tape.trans h.tape,k.output.trans h.output,Nat.le_trans h.size k.size,fun i hi hn=>(k.block i (Nat.lt_of_lt_of_le hi h.size) hn).trans (h.block i hi hn)⟩
theorem Touch.of_below {S:Nat->Prop} {a b:World} (h:Below a.heap.size a b):Touch S a b:=⟨h.os,h.tape,h.output,h.size,fun i hi _=>h.block i hi⟩
theorem Touch.of_grown {S:Nat->Prop} {a b:World} {row:Option Nat} (h:a.grownBy b row) (hS:∀ k,row=some k->S k):Touch S a b :=
 ⟨h.os,h.tape,h.output,h.size,fun i hi hn=>h.block i hi (fun e=>hn (hS i e.symm))⟩
theorem Touch.below {S:Nat->Prop} {B:Nat} {w a b:World} (h:Below B w a) (k:Touch S a b) (hB:B<=a.heap.size) (hS:∀ k,S k->B<=k):Below B w b :=
 ⟨k.os.trans h.os,k.tape.trans h.tape,k.output.trans h.output,Nat.le_trans h.size k.size,fun i hi=>(k.block i (by omega) (fun hs=>by have:=hS i hs; omega)).trans (h.block i hi)⟩
theorem ERow.touch {α:Type} {E:Elt α} {w w':World} {base:Nat} {v:Value} {xs:List α} {S:Nat->Prop} (h:ERow E w base v xs) (hg:Touch S w w') (hne:∀ k,v.ownBlock=some k->¬ S k):ERow E w' base v xs:=by
 refine ⟨h.1,?_⟩
 rcases h.2 with hh | ⟨g,cap,cur,e,hb,hgg,r⟩
 ·exact .inl hh
 ·refine .inr ⟨g,cap,cur,e,hb,?_,r⟩
  rw [hg.block g (Array.getElem?_eq_some_iff.1 hgg).1 (hne g (by rw [e]; rfl))]
  exact hgg
theorem EHas.touch {α:Type} {E:Elt α} {w w':World} {v:Value} {n:Nat} {c:Nat->Nat->Value} {S:Nat->Prop} (h:EHas E w v n c) (hg:Touch S w w') (hne:∀ k,v.ownBlock=some k->¬ S k):EHas E w' v n c:=by
 obtain ⟨a,cap,e,h1⟩:=h
 refine ⟨a,cap,e,fun h0=>?_⟩
 obtain ⟨g,N,f,p,q,r,s⟩:=h1 h0
 subst e p
 exact ⟨g,N,f,rfl,q.of_block (hg.block g q.lt (hne g rfl)),r,s⟩
theorem MRow.below {w w':World} {base:Nat} {m:MV} {M:Mach} (h:MRow w base m M) (hb:Below w.heap.size w w'):MRow w' base m M:=⟨h.w.below hb,h.p.below hb,h.t.below hb,h.c.below hb⟩
theorem MRow.touch {w w':World} {base:Nat} {m:MV} {M:Mach} {S:Nat->Prop} (h:MRow w base m M) (hg:Touch S w w') (hne:∀ k,m.owns k->¬ S k):MRow w' base m M :=
 ⟨h.w.touch hg (fun k hk=>hne k (.inl hk)),h.p.touch hg (fun k hk=>hne k (.inr (.inl hk))),h.t.touch hg (fun k hk=>hne k (.inr (.inr (.inl hk)))),h.c.touch hg (fun k hk=>hne k (.inr (.inr (.inr hk))))⟩
theorem MRow.rebase {w:World} {base base':Nat} {m:MV} {M:Mach} (h:MRow w base m M) (hb:base'<=base):MRow w base' m M:=⟨h.w.rebase hb,h.p.rebase hb,h.t.rebase hb,h.c.rebase hb⟩
theorem MRow.own {w:World} {base:Nat} {m:MV} {M:Mach} (h:MRow w base m M):∀ k,m.owns k->base<=k/\k < w.heap.size:=by
 rintro k (hk | hk | hk | hk)
 ·exact h.w.own k hk
 ·exact h.p.own k hk
 ·exact h.t.own k hk
 ·exact h.c.own k hk
theorem MSrc.at {w w':World} {m:MV} {M:Mach} (h:MSrc w m M) (hb:Below w.heap.size w w'):MSrc w' m M:=by
 refine ⟨?_,h.p.at hb,h.t.at hb,h.c.at hb⟩
 obtain ⟨a,cap,e,ha⟩:=h.w
 refine ⟨a,cap,e,fun h0=>?_⟩
 obtain ⟨b,o,e2,hbl,hc⟩:=ha h0
 exact ⟨b,o,e2,Nat.lt_of_lt_of_le hbl hb.size,fun i hi=>(hb.cell hbl).trans (hc i hi)⟩
theorem bcellM {W w1:World} (hb:Below W.heap.size W w1):(∀ b o,b < W.heap.size->w1.cell? ⟨b,o,none⟩=W.cell? ⟨b,o,none⟩)/\(∀ b o,b < W.heap.size->w1.frozen? ⟨b,o,none⟩=W.frozen? ⟨b,o,none⟩) :=
 ⟨fun b o h=>hb.cell (p:=⟨b,o,none⟩) h,fun b o h=>hb.frozen (p:=⟨b,o,none⟩) h⟩
end Go.Proofs.Ytnmhkgmmpkjjeaa
namespace Go.Proofs.Ytnmhkgmmpkjjeaa
open Go.ChangeShapes Go.WideShapes Go.ChangeAt Go.RowKit
set_option linter.unusedVariables false
end Go.Proofs.Ytnmhkgmmpkjjeaa
namespace Go.Proofs.Ytnmhkgmmpkjjeaa
open Go.ChangeShapes Go.WideShapes Go.ChangeAt Go.RowKit
set_option linter.unusedVariables false
theorem esrc_open {α:Type} (E:Elt α) (Q:α->Prop) {H:Type} {enc:TypeId × Value->H} {W:World} {sp:Nat->Bool} {T ts:TypeId} (ht:Try.prog.underlying ts=some (.slice T)) (hc:Try.prog.cellsOf T=E.sz)
  (hel:∀ n cs y,DataW.trod enc Try.prog W 0 sp true n T cs=some y->∃ x,cs=E.enc x/\Q x) {fuel:Nat} {v:Value} {y:DataW H × List MemPlace} (hf:DataW.trod enc Try.prog W 0 sp true fuel ts [v]=some y) :
  ∃ xs,ESrc E W v xs/\xs.length<=9223372036854775807/\∀ i,i < xs.length->Q (eAt E xs i):=by
 rcases Go.Deep.open_slice ht hf with ⟨hcs,_⟩ | ⟨a,len,cap,m,n,D,Pl,hcs,_,hl,hm,hmm,_,hx⟩
 ·simp at hcs
  subst hcs
  exact ⟨[],⟨none,0,rfl,fun h=>absurd h (by simp)⟩,by simp,fun i hi=>absurd hi (by simp)⟩
 ·simp at hcs
  subst hcs
  unfold maxLen at hm
  have hlm:len<=m:=by rw [hmm]; split <;> omega
  have hex:∀ i,i < len->∃ x,Q x/\∀ j,j < E.sz->W.cell? ((a.add (i * E.sz)).add j)=(E.enc x)[j]?:=by
   intro i hi
   obtain ⟨cs',h1,h2⟩:=hx i (by omega)
   obtain ⟨x,rfl,hq⟩:=hel _ _ _ h2
   rw [hc] at h1
   exact ⟨x,hq,(World.cells?_some h1).2.2⟩
  have hch:∃ X:Nat->α,∀ i,i < len->Q (X i)/\∀ j,j < E.sz->W.cell? ((a.add (i * E.sz)).add j)=(E.enc (X i))[j]?:=by
   refine ⟨fun i=>if hi:i < len then Classical.choose (hex i hi) else E.dflt,fun i hi=>?_⟩
   simp only [dif_pos hi]
   exact Classical.choose_spec (hex i hi)
  obtain ⟨X,hX⟩:=hch
  have hlen:((List.range len).map X).length=len:=by simp
  have hat:∀ i,i < len->eAt E ((List.range len).map X) i=X i:=by
   intro i hi
   simp [eAt,hi]
  refine ⟨(List.range len).map X,⟨some a,cap,by rw [hlen],fun h0=>?_⟩,by omega,fun i hi=>?_⟩
  ·rw [hlen] at h0
   have hcell:∀ i,i < len->∀ j,j < E.sz->W.cell? ((a.add (i * E.sz)).add j)=some (eCell E ((List.range len).map X) i j):=by
    intro i hi j hj
    rw [(hX i hi).2 j hj,eCell,hat i hi,List.getElem?_eq_getElem (by rw [E.len]; exact hj)]
    rfl
   obtain ⟨b,off,spot⟩:=a
   have hspot:spot=none:=by
    have:=hcell 0 h0 0 E.pos
    simpa [Addr.add] using World.cell?_spot this
   subst hspot
   have hplain:∀ i,i < len->∀ j,j < E.sz->W.cell? ⟨b,off+i * E.sz+j,none⟩=some (eCell E ((List.range len).map X) i j):=by
    intro i hi j hj
    have:=hcell i hi j hj
    rwa [add_plain,add_plain] at this
   exact ⟨b,off,rfl,World.block_lt_of_cell? W _ (hplain 0 h0 0 E.pos),fun i hi j hj=>hplain i (by omega) j hj⟩
  ·rw [hlen] at hi
   rw [hat i hi]
   exact (hX i hi).1
theorem mach_laidOut:laidOutB Try.prog=true:=by kernel_rfl
theorem list2 {α:Type} {l:List α} (h:l.length=2):∃ a0 a1,l=[a0,a1]:=by
 match l,h with
 | [a0,a1],_=>exact ⟨a0,a1,rfl⟩
theorem list4 {α:Type} {l:List α} (h:l.length=4):∃ a0 a1 a2 a3,l=[a0,a1,a2,a3]:=by
 match l,h with
 | [a0,a1,a2,a3],_=>exact ⟨a0,a1,a2,a3,rfl⟩
theorem list5 {α:Type} {l:List α} (h:l.length=5):∃ a0 a1 a2 a3 a4,l=[a0,a1,a2,a3,a4]:=by
 match l,h with
 | [a0,a1,a2,a3,a4],_=>exact ⟨a0,a1,a2,a3,a4,rfl⟩
end Go.Proofs.Ytnmhkgmmpkjjeaa
namespace Go.Proofs.Ytnmhkgmmpkjjeaa
open Go.ChangeShapes Go.WideShapes Go.ChangeAt Go.RowKit
set_option linter.unusedVariables false
def okWrite (x:WriteE):Prop:=(Lit.int .i64 x.addr).wf=true/\(Lit.int .u64 x.word).wf=true
def okTlb (x:TlbE):Prop:=(Lit.int .i64 x.page).wf=true/\(Lit.int .i64 x.size).wf=true/\(Lit.int .i64 x.out).wf=true/\(Lit.int .i64 x.perm).wf=true
def okWc (x:WcE):Prop:=(Lit.int .i64 x.level).wf=true/\(Lit.int .i64 x.page).wf=true/\(Lit.int .i64 x.table).wf=true
end Go.Proofs.Ytnmhkgmmpkjjeaa
namespace Go.Proofs.Ytnmhkgmmpkjjeaa
open Go.ChangeShapes Go.WideShapes Go.ChangeAt Go.RowKit
set_option linter.unusedVariables false
structure SV where
 a1:Option Addr
 c1:Nat
 a2:Option Addr
 c2:Nat
 a3:Option Addr
 c3:Nat
 a4:Option Addr
 c4:Nat
def SV.mv (s:SV) (M:Mach):MV:=⟨.slice s.a1 M.mem.length s.c1,.slice s.a2 M.pend.length s.c2,.slice s.a3 M.tlb.length s.c3,.slice s.a4 M.wc.length s.c4⟩
abbrev MA (s:SV) (M:Mach):Value:=.agg #[.slice s.a1 M.mem.length s.c1,.slice s.a2 M.pend.length s.c2,.slice s.a3 M.tlb.length s.c3,.slice s.a4 M.wc.length s.c4]
abbrev MC (w:World) (B:Nat) (s:SV) (M:Mach):Prop:=w.cell? ⟨B,0,none⟩=some (.slice s.a1 M.mem.length s.c1)/\w.cell? ⟨B,1,none⟩=some (.slice s.a2 M.pend.length s.c2)/\w.cell? ⟨B,2,none⟩=some (.slice s.a3 M.tlb.length s.c3)/\w.cell? ⟨B,3,none⟩=some (.slice s.a4 M.wc.length s.c4)
theorem MRow.sv {W:World} {b:Nat} {m:MV} {M:Mach} (h:MRow W b m M):∃ s:SV,m=s.mv M:=by
 obtain ⟨a1,c1,e1,_⟩:=h.w.form
 obtain ⟨a2,c2,e2,_⟩:=h.p.form
 obtain ⟨a3,c3,e3,_⟩:=h.t.form
 obtain ⟨a4,c4,e4,_⟩:=h.c.form
 obtain ⟨x,y,z,t⟩:=m
 exact ⟨⟨a1,c1,a2,c2,a3,c3,a4,c4⟩,by simp only at e1 e2 e3 e4; rw [e1,e2,e3,e4]; rfl⟩
structure MOk (M:Mach):Prop where
 w:M.mem.length<=9223372036854775807
 p:M.pend.length<=9223372036854775807
 t:M.tlb.length<=9223372036854775807
 c:M.wc.length<=9223372036854775807
 word:∀ i,0<=M.mem.getD i 0/\M.mem.getD i 0 < 2 ^ 64
 pend:∀ i,i < M.pend.length->okWrite (eAt eWrite M.pend i)
 tlb:∀ i,i < M.tlb.length->okTlb (eAt eTlb M.tlb i)
 wc:∀ i,i < M.wc.length->okWc (eAt eWc M.wc i)
theorem cellsWord1:Try.prog.cellsOf 61=1:=by kernel_rfl
theorem elWord {H:Type} {enc:TypeId × Value->H} {W:World} {sp:Nat->Bool} (n:Nat) (cs:List Value) (y:DataW H × List MemPlace) (h:DataW.trod enc Try.prog W 0 sp true n 61 cs=some y):∃ x,cs=eWord.enc x/\(Lit.int .u64 x).wf=true:=by
 obtain ⟨x,r,_,hw⟩:=DataW.trod_int Try.underlying61 h
 exact ⟨x,r,hw⟩
end Go.Proofs.Ytnmhkgmmpkjjeaa
namespace Go.Proofs.Ytnmhkgmmpkjjeaa
open Go.ChangeShapes Go.WideShapes Go.ChangeAt Go.RowKit
set_option linter.unusedVariables false
theorem infoWord:(Try.prog.info? 61).map (fun i=>(i.zero,i.size,i.bytes))=some (some (.int .u64 0),1,8):=by kernel_rfl
set_option maxHeartbeats 1000000 in
theorem copyMem_any (v:Value) (zs:List Int) (b:Nat) (w:World) (hn:zs.length<=1048576) (hv:ERow eWord w b v zs) :
  Calls Try.prog 143 #[.agg #[v]] w fun e w'=>∃ g c,e=.returned (.agg #[.slice (some ⟨g,0,none⟩) zs.length c])/\ERow eWord w' w.heap.size (.slice (some ⟨g,0,none⟩) zs.length c) zs/\Below w.heap.size w w':=by
 obtain ⟨a,c,rfl,ha⟩:=eWord_form hv
 obtain ⟨i0,hi,hz0,hz1,hz2⟩:=info_parts infoWord
 obtain ⟨wb,hwb⟩:∃ wb,wb=(w.alloc (.cells #[.slice a zs.length c] 25)).alloc (.cells #[.slice none 0 0] 25):=⟨_,rfl⟩
 have hbb:Below w.heap.size w wb:=by rw [hwb]; exact ((Below.refl _ _).alloc (Nat.le_refl _) _).alloc (by simp) _
 have hzb:wb.heap.size=w.heap.size+2:=by rw [hwb]; simp
 have q0:wb.cell? ⟨w.heap.size,0,none⟩=some (.slice a zs.length c):=by rw [hwb]; simp [go_sem]
 have q1:wb.cell? ⟨w.heap.size+1,0,none⟩=some (.slice none 0 0):=by rw [hwb]; simp [go_sem]
 have f1:wb.frozen? ⟨w.heap.size+1,0,none⟩=false:=by rw [hwb]; simp [go_sem]
 have he:=ERow.empty eWord wb (w.heap.size+2) (by omega)
 have HQ:Hid (wb.cell? ⟨w.heap.size,0,none⟩=some (.slice a zs.length c)/\wb.cell? ⟨w.heap.size+1,0,none⟩=some (.slice none 0 0)/\wb.frozen? ⟨w.heap.size+1,0,none⟩=false):=⟨q0,q1,f1⟩
 have HWB:Hid (wb=_):=hwb
 have HBB:Hid (Below _ w wb):=hbb
 have HE:Hid (ERow _ _ _ _ _):=he
 have HZ:Hid (wb.heap.size=w.heap.size+2):=hzb
 clear hwb hbb q0 q1 f1 he hzb hv
 go_enter Try.func143,Try.ntmps143
 go_wp2_with fail
 go_loopw [3,4] (fun vv iv wr=>∃ t gv cv:Nat,t<=zs.length/\iv=.int .i64 t/\vv=.slice (some ⟨gv,0,none⟩) t cv/\ERow eWord wr (w.heap.size+2) (.slice (some ⟨gv,0,none⟩) t cv) (zs.take t)/\Below (w.heap.size+2) wb wr) (fun _ iv _=>zs.length - (intOf iv).toNat)
 case atStart =>
  refine ⟨0,w.heap.size+1+1,0,Nat.zero_le _,rfl,rfl,?_,?_⟩
  ·have h:=HE.out
   rw [HZ.out,HWB.out] at h
   exact h
  ·rw [HWB.out]
   exact (Below.refl (w.heap.size+2) _).alloc (by simp) _
 case round =>
  obtain ⟨t,gv,cv,ht,rfl,rfl,hrow,hb⟩:=hrel
  have hz:=HZ.out
  have hsz:=hb.size
  obtain ⟨q0,q1,f1⟩:=HQ.out
  by_cases hlt:t < zs.length
  ·obtain ⟨g,N,f,rfl,_,hr,hN,hf⟩:=ha (by omega)
   have hb2:Below w.heap.size w wr:=HBB.out.trans (hb.mono (by omega))
   have hr1:wr.rowIs g 61 N f:=hr.of_block (hb2.block g hr.lt)
   have c1:=hr1.cell (i:=t) (by omega)
   rw [hf t hlt] at c1
   have c0:=(hb.cell (p:=⟨w.heap.size,0,none⟩) (by simp)).trans q0
   have hgl:=hr1.lt
   have hec:eWord.enc (eAt eWord zs t)=[.int .u64 (zs.getD t 0)]:=rfl
   generalize zs.getD t 0=A at *
   have L1:(0:Int)<=(t:Int):=by omega
   have L2:(t:Int) < (zs.length:Int):=by omega
   have HROW:Hid (ERow _ wr _ _ _):=hrow
   have HB:Hid (Below _ wb wr):=hb
   have HEC:Hid _:=hec
   have htl:(zs.take t).length=t:=by rw [List.length_take]; omega
   have hown:wr.ownsRow (w.heap.size+2) 61 1 (.slice (some ⟨gv,0,none⟩) t cv) t (ecells eWord (zs.take t)):=by
    have h:=hrow
    unfold ERow at h
    rw [htl] at h
    exact h
   have HOWN:Hid _:=hown
   clear hrow hb hb2 hr1 hr hf hec q0 q1 f1 htl hown ha
   go_wp2_with (at_builtin; refine wpList_append_lies _ rfl (.tmp 13) (.tmp 19) 23 rfl (w.heap.size+2) 61 i0 _ 1 8 Try.underlying23 hi hz0 hz1 hz2 rfl (by omega) _ _ _ rfl (World.ownsRow.alloc HOWN.out _) ⟨wr.heap.size,0,none⟩ 1 1 [.int .u64 A] rfl rfl ?c1 ?c2 (by omega) ?c3 ?c4 ?c5 (wr.heap.size+1) ?c6 ?_)
   case c1=>exact World.news_of_block (heap_alloc_new wr (.cells #[.int .u64 A] 61))
   case c2=>intro u hu; simp at hu; subst hu; rfl
   case c3=>unfold maxLen; omega
   case c4=>omega
   case c5=>simp; omega
   case c6=>simp
   intro g1 cap1 wn hown hgrow hat hlt3
   have hnew:ERow eWord wn (w.heap.size+2) (.slice (some ⟨g1,0,none⟩) (t+1) cap1) (zs.take (t+1)):=ERow.snoc (m:=t+1) hlt rfl (by rw [HEC.out]; exact hown)
   have hbn:Below (w.heap.size+2) wb wn:=((HB.out.alloc (by omega) _).grown hgrow (by simp; omega) (fun q hq=>(HROW.out.own q hq).1))
   clear hown hgrow hat c1 c0
   go_wp2_with fail
   go_roundw
   case rel=>exact ⟨t+1,g1,cap1,by omega,by go_num,rfl,hnew,hbn⟩
   case measure=>simp [intOf]; omega
  ·have e:t=zs.length:=by omega
   subst e
   rw [List.take_length] at hrow
   have c0:=(hb.cell (p:=⟨w.heap.size,0,none⟩) (by simp)).trans q0
   have c1:=(hb.cell (p:=⟨w.heap.size+1,0,none⟩) (by simp)).trans q1
   have f1':=(hb.frozen (p:=⟨w.heap.size+1,0,none⟩) (by simp)).trans f1
   have hown:=hrow.own gv rfl
   have HROW:Hid (ERow _ wr _ _ _):=hrow
   have HB:Hid (Below _ wb wr):=hb
   clear hrow hb ha
   go_wp2_with fail
   refine bodyPost_ret (v:=.agg #[.slice (some ⟨gv,0,none⟩) zs.length cv]) (by simp [results,Try.results143,go_sem,c1]) rfl ⟨gv,cv,rfl,?_,?_⟩
   ·have T:Touch (fun k=>k=w.heap.size+1) wr (wr.setCell ⟨w.heap.size+1,0,none⟩ (.slice (some ⟨gv,0,none⟩) zs.length cv)):=⟨rfl,rfl,rfl,by simp,fun k hk hn=>Below.heap_setCell _ _ _ _ hn⟩
    refine ERow.rebase (HROW.out.touch T ?_) (by omega:w.heap.size<=w.heap.size+2)
    intro k hk hx
    simp [Value.ownBlock] at hk
    omega
   ·exact HBB.out.trans ((HB.out.mono (by omega)).setCell (by simp) _)
end Go.Proofs.Ytnmhkgmmpkjjeaa
