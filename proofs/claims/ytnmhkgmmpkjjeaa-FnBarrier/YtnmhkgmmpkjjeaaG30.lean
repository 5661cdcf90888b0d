import Derived.Test.YtnmhkgmmpkjjeaaG29
import Derived.Test.YtnmhkgmmpkjjeaaG15
import Derived.Test.YtnmhkgmmpkjjeaaG13
namespace Go.Proofs.Ytnmhkgmmpkjjeaa
open Go.ChangeShapes Go.WideShapes Go.ChangeAt Go.RowKit
set_option linter.unusedVariables false
attribute [local go_sem ↓] Go.wp_at_zero Go.wp_at_succ
def UV.all (u:UV) (gu k:Nat):Prop:=k=gu\/u.o1=some k\/u.o2=some k\/u.o3=some k\/u.o4=some k\/u.o5=some k
structure UWide (w w':World) (gu b0 B:Nat) (u u':UV) (M':Mach):Prop where
 um:UM w' gu b0 B true u' M'
 tch:Touch (u.all gu) w w'
 old:∀ k,u'.all gu k->u.all gu k\/w.heap.size<=k
 th:UThree u'
theorem UWide.refl {w w':World} {gu b0 B:Nat} {u:UV} {M:Mach} (h:UM w gu b0 B true u M) (ht:UThree u) (hb:Below w.heap.size w w'):UWide w w' gu b0 B u u M:=⟨h.below hb,Touch.of_below hb,fun k hk=>.inl hk,ht⟩
theorem UWide.trans {a b c:World} {gu b0 B:Nat} {u v x:UV} {M N:Mach} (h:UWide a b gu b0 B u v M) (k:UWide b c gu b0 B v x N):UWide a c gu b0 B u x N :=
 ⟨k.um,h.tch.then k.tch (fun i hi hv=>(h.old i hv).resolve_right (by omega)),fun i hi=>by
  rcases k.old i hi with hv | hv
  ·exact h.old i hv
  ·exact .inr (Nat.le_trans h.tch.size hv),k.th⟩
theorem UStep.wide {w w':World} {gu b0 B:Nat} {u u':UV} {M':Mach} (h:UStep w w' gu b0 B true u u' M') (ht:UThree u):UWide w w' gu b0 B u u' M':=by
 have sub:∀ k,u.wr gu k->u.all gu k:=fun k hk=>by
  rcases hk with e | e | e
  ·exact .inl e
  ·exact .inr (.inr (.inr (.inr (.inl e))))
  ·exact .inr (.inr (.inr (.inr (.inr e))))
 refine ⟨h.um,⟨h.tch.os,h.tch.tape,h.tch.output,h.tch.size,fun k hk hn=>h.tch.block k hk (fun hh=>hn (sub k hh))⟩,fun k hk=>?_,?_⟩
 ·rcases hk with e | e | e | e | e | e
  ·exact .inl (.inl e)
  ·exact .inl (.inr (.inl (by rw [<- h.s1]; exact e)))
  ·exact .inl (.inr (.inr (.inl (by rw [<- h.s2]; exact e))))
  ·exact .inl (.inr (.inr (.inr (.inl (by rw [<- h.s3]; exact e)))))
  ·exact (h.old k (.inr (.inl e))).imp (sub k) id
  ·exact (h.old k (.inr (.inr e))).imp (sub k) id
 ·exact ⟨fun k h1 h3=>ht.a13 k (by rw [<- h.s1]; exact h1) (by rw [<- h.s3]; exact h3),fun k h1 h2=>ht.a12 k (by rw [<- h.s1]; exact h1) (by rw [<- h.s2]; exact h2),fun k h2 h3=>ht.a23 k (by rw [<- h.s2]; exact h2) (by rw [<- h.s3]; exact h3)⟩
theorem ERow.cellsB {α:Type} {E:Elt α} {w:World} {b c:Nat} {a:Option Addr} {xs:List α} (h:ERow E w b (.slice a xs.length c) xs) :
  ∃ g,(0 < xs.length->a=some ⟨g,0,none⟩/\g < w.heap.size/\b<=g/\xs.length<=c)/\∀ k,k < xs.length->∀ j,j < E.sz->∀ wX:World,wX.heap[g]?=w.heap[g]?->wX.cell? ⟨g,k * E.sz+j,none⟩=some (eCell E xs k j):=by
 by_cases h0:0 < xs.length
 ·rcases h.2 with ⟨e,h1⟩ | ⟨g0,cap,cur,e,hb,hg,hn,hm,hs,ht⟩
  ·exact absurd h0 (by omega)
  ·obtain ⟨a',c',e',hf⟩:=h.form
   obtain ⟨g,N,f,hag,hbg,hr,hN,hc⟩:=hf h0
   simp only [Value.slice.injEq] at e e'
   have hga:a=some ⟨g,0,none⟩:=e'.1.trans hag
   refine ⟨g,fun _=>⟨hga,hr.lt,hbg,by omega⟩,fun k hk j hj wX hX=>?_⟩
   rw [(hr.of_block hX).cell (Nat.lt_of_lt_of_le (cell_lt hk hj) hN)]
   exact congrArg some (hc k hk j hj)
 ·exact ⟨0,fun h=>absurd h h0,fun k hk=>absurd hk (by omega)⟩
theorem tlb_cells {w:World} {b c:Nat} {a:Option Addr} {xs:List TlbE} (h:ERow eTE w b (.slice a xs.length c) xs) :
  ∃ g,(0 < xs.length->a=some ⟨g,0,none⟩/\g < w.heap.size)/\∀ k P S O R D,k < xs.length->eAt eTlb xs k=⟨P,S,O,R,D⟩->∀ wX:World,wX.heap[g]?=w.heap[g]?->wX.cell? ⟨g,k * 5,none⟩=some (.int .i64 P)/\wX.cell? ⟨g,k * 5+1,none⟩=some (.int .i64 S)/\wX.cell? ⟨g,k * 5+2,none⟩=some (.bool D)/\wX.cell? ⟨g,k * 5+3,none⟩=some (.int .i64 O)/\wX.cell? ⟨g,k * 5+4,none⟩=some (.int .i64 R):=by
 obtain ⟨g,h1,h2⟩:=h.cellsB
 refine ⟨g,fun h0=>⟨(h1 h0).1,(h1 h0).2.1⟩,fun k P S O R D hk he wX hX=>?_⟩
 have e0:∀ j,eCell eTE xs k j=((eTE.enc ⟨P,S,O,R,D⟩)[j]?).getD (.bool false):=fun j=>by
  have he':eAt eTE xs k=⟨P,S,O,R,D⟩:=he
  unfold eCell; rw [he']
 have c:∀ j,j < 5->wX.cell? ⟨g,k * 5+j,none⟩=some (eCell eTE xs k j):=fun j hj=>h2 k hk j hj wX hX
 exact ⟨(c 0 (by omega)).trans (by rw [e0]; rfl),(c 1 (by omega)).trans (by rw [e0]; rfl),(c 2 (by omega)).trans (by rw [e0]; rfl),(c 3 (by omega)).trans (by rw [e0]; rfl),(c 4 (by omega)).trans (by rw [e0]; rfl)⟩
theorem wc_cells {w:World} {b c:Nat} {a:Option Addr} {xs:List WcE} (h:ERow eWE w b (.slice a xs.length c) xs) :
  ∃ g,(0 < xs.length->a=some ⟨g,0,none⟩/\g < w.heap.size)/\∀ k L P T D,k < xs.length->eAt eWc xs k=⟨L,P,T,D⟩->∀ wX:World,wX.heap[g]?=w.heap[g]?->wX.cell? ⟨g,k * 5,none⟩=some (.int .i64 P)/\wX.cell? ⟨g,k * 5+1,none⟩=some (.int .i64 (16 * cov L))/\wX.cell? ⟨g,k * 5+2,none⟩=some (.bool D)/\wX.cell? ⟨g,k * 5+3,none⟩=some (.int .i64 L)/\wX.cell? ⟨g,k * 5+4,none⟩=some (.int .i64 T):=by
 obtain ⟨g,h1,h2⟩:=h.cellsB
 refine ⟨g,fun h0=>⟨(h1 h0).1,(h1 h0).2.1⟩,fun k L P T D hk he wX hX=>?_⟩
 have e0:∀ j,eCell eWE xs k j=((eWE.enc ⟨L,P,T,D⟩)[j]?).getD (.bool false):=fun j=>by
  have he':eAt eWE xs k=⟨L,P,T,D⟩:=he
  unfold eCell; rw [he']
 have c:∀ j,j < 5->wX.cell? ⟨g,k * 5+j,none⟩=some (eCell eWE xs k j):=fun j hj=>h2 k hk j hj wX hX
 exact ⟨(c 0 (by omega)).trans (by rw [e0]; rfl),(c 1 (by omega)).trans (by rw [e0]; rfl),(c 2 (by omega)).trans (by rw [e0]; rfl),(c 3 (by omega)).trans (by rw [e0]; rfl),(c 4 (by omega)).trans (by rw [e0]; rfl)⟩
theorem eWord_c {w:World} {b c:Nat} {a:Option Addr} {zs:List Int} (h:ERow eWord w b (.slice a zs.length c) zs) (h0:0 < zs.length):∃ g,a=some ⟨g,0,none⟩/\CRow w g zs/\zs.length<=c/\b<=g:=by
 obtain ⟨g,h1,h2⟩:=h.cellsB
 obtain ⟨e,hl,hb,hc⟩:=h1 h0
 refine ⟨g,e,⟨hl,fun i hi=>?_⟩,hc,hb⟩
 have:=h2 i hi 0 (by decide) w rfl
 have e1:i * eWord.sz+0=i:=by show i * 1+0=i; omega
 rw [e1] at this
 exact this
theorem lateL_rng {M:Mach} (h:WOk M) (hp:∀ i,i < M.pend.length->0<=(eAt eWrite M.pend i).addr):∀ i,0<=(lateL M).getD i 0/\(lateL M).getD i 0 < 2 ^ 64:=fun i=>by
 by_cases hi:i < M.mem.length
 ·rw [lateL_read M i hi hp]
  exact readTo_rng h _ _
 ·rw [List.getD_eq_getElem?_getD,List.getElem?_eq_none (by rw [lateL_length]; omega)]
  simp
theorem late_ok {M:Mach} (h:WOk M) (hp:∀ i,i < M.pend.length->0<=(eAt eWrite M.pend i).addr):OkMem (lateL M):=⟨by rw [lateL_length]; exact h.n0,lateL_rng h hp⟩
theorem WOk.okMem {M:Mach} (h:WOk M):OkMem M.mem:=⟨h.n0,h.word⟩
end Go.Proofs.Ytnmhkgmmpkjjeaa
namespace Go.Proofs.Ytnmhkgmmpkjjeaa
open Go.ChangeShapes Go.WideShapes Go.ChangeAt Go.RowKit
set_option linter.unusedVariables false
attribute [local go_sem ↓] Go.wp_at_zero Go.wp_at_succ
set_option maxHeartbeats 2000000 in
theorem hasPlace_any (g:Nat) (zs:List Int) (c:Nat) (f:Int) (hz:OkMem zs) (hcc:zs.length<=c) (w:World) (hg:CRow w g zs) :
  Calls Try.prog 190 #[.agg #[.slice (some ⟨g,0,none⟩) zs.length c],.int .i64 f] w fun e w'=>e=.returned (.bool (plcHas (plist zs) f))/\Below w.heap.size w w':=by
 obtain ⟨wb,hwb⟩:∃ wb,wb=w.alloc (.cells #[.slice (some ⟨g,0,none⟩) zs.length c] 25):=⟨_,rfl⟩
 have hbb:Below w.heap.size w wb:=by rw [hwb]; exact (Below.refl _ _).alloc (Nat.le_refl _) _
 have hpl:=placesOf_any g zs c hz hcc wb (hg.below hbb hg.lt)
 have hle:=plist_length zs
 rw [hwb] at hpl
 have HWB:Hid (wb=_):=hwb
 have HBB:Hid (Below w.heap.size w wb):=hbb
 clear hwb hbb hz hg
 obtain ⟨ps,hps⟩:∃ ps,ps=plist zs:=⟨_,rfl⟩
 rw [<- hps] at hpl hle ⊢
 clear hps
 go_enter Try.func190,Try.ntmps190
 go_wp2_with fail
 refine hpl.mono ?_
 rintro e w1 ⟨g1,c1,rfl,hr,hb1'⟩
 have hb1:Below wb.heap.size wb w1:=by rw [HWB.out]; exact hb1'
 have b1:Below w.heap.size w w1:=HBB.out.trans (hb1.mono HBB.out.size)
 obtain ⟨gp,hp1,hp2⟩:=plc_cells hr
 have HP1:Hid _:=hp1
 have HP2:Hid _:=hp2
 have HB1:Hid (Below w.heap.size w w1):=b1
 clear hb1 hb1' hpl hr hp1 hp2 b1
 go_wp2_with fail
 go_loopw [10] (fun i wr=>∃ k:Nat,k<=ps.length/\i=.int .i64 k/\Hid (∀ j,j < k->decide ((pAt ps j).fr=f)=false)/\Below w1.heap.size w1 wr) (fun i _=>ps.length - (intOf i).toNat)
 case atStart=>exact ⟨0,Nat.zero_le _,rfl,fun j hj=>absurd hj (by omega),Below.refl _ _⟩
 case round =>
  obtain ⟨k,hk,rfl,hall,hb⟩:=hrel
  by_cases hlt:k < ps.length
  ·obtain ⟨E,hE⟩:∃ E,pAt ps k=E:=⟨_,rfl⟩
   obtain ⟨F,L,P⟩:=E
   obtain ⟨hge,hgl⟩:=HP1.out (by omega)
   simp only [Option.some.injEq,Addr.mk.injEq,and_true] at hge
   obtain rfl:=hge.symm
   obtain ⟨c0,c1,c2⟩:=HP2.out k F L P hlt hE wr hb
   have HE:Hid (pAt ps k=_):=hE
   have L1:(0:Int)<=(k:Int):=by omega
   have L2:(k:Int) < (ps.length:Int):=by omega
   have HB:Hid (Below w1.heap.size w1 wr):=hb
   have hsz:=hb.size
   clear hE hb hge
   by_cases hf:F=f
   ·have d:(F == f)=true:=by simpa using hf
    have HR:Hid (plcHas ps f=true):=anyR_true _ k _ hlt (by rw [HE.out]; exact decide_eq_true hf)
    clear hf
    go_wp2_with fail
    go_ret
    refine ⟨by rw [HR.out]; rfl,HB1.out.trans ((HB.out.alloc hsz _).mono HB1.out.size)⟩
   ·have d:(F == f)=false:=by simpa using hf
    have HN:Hid (decide ((pAt ps k).fr=f)=false):=by rw [HE.out]; exact decide_eq_false hf
    clear hf
    go_wp2_with fail
    go_roundw
    case rel =>
     refine ⟨k+1,by omega,by go_num,fun j hj=>?_,HB.out.alloc hsz _⟩
     by_cases e:j=k
     ·rw [e]; exact HN.out
     ·exact hall.out j (by omega)
    case measure=>simp [intOf]; omega
  ·have HR:Hid (plcHas ps f=false):=anyR_false _ _ (fun j hj=>hall.out j (by omega))
   go_wp2_with fail
   go_ret
   exact ⟨by rw [HR.out]; rfl,HB1.out.trans (hb.mono HB1.out.size)⟩
set_option maxHeartbeats 4000000 in
theorem caches_any (gu b0 B:Nat) (u:UV) (M:Mach) (F L Q ix:Int) (w:World) (hv:validB M=true) (hl:L=1\/L=2\/L=3) (hq0:0<=Q) (hq1:Q<=20000) (hi0:0<=ix) (hi1:ix < 16) (ht:M.tlb.length<=256) (hc:M.wc.length<=256) (h:UM w gu b0 B true u M) :
  Calls Try.prog 189 #[.pointer (some ⟨gu,0,none⟩),.agg #[.int .i64 F,.int .i64 L,.int .i64 Q],.int .i64 ix] w fun e w'=>e=.returned (.bool (cachedB M L (Q+ix * cov L) (cov L)))/\Below w.heap.size w w':=by
 have hcb:1<=cov L/\cov L<=256:=by rcases hl with rfl | rfl | rfl <;> decide
 have hmul:0<=ix * cov L/\ix * cov L<=3840:=by rcases hl with rfl | rfl | rfl <;> (simp only [cov]; constructor <;> (simp; omega))
 obtain ⟨wb,hwb⟩:∃ wb,wb=w.alloc (.cells #[.int .i64 F,.int .i64 L,.int .i64 Q] 63):=⟨_,rfl⟩
 have hbb:Below w.heap.size w wb:=by rw [hwb]; exact (Below.refl _ _).alloc (Nat.le_refl _) _
 have hzb:wb.heap.size=w.heap.size+1:=by rw [hwb]; simp
 have hep:=entryPages_any L
 obtain ⟨gt,ht1,ht2⟩:=tlb_cells h.t
 obtain ⟨gw,hw1,hw2⟩:=wc_cells h.c
 have hlt:=h.lt
 have HQ:Hid (∀ wX,Below wb.heap.size wb wX->(wX.cell? ⟨w.heap.size,0,none⟩=some (.int .i64 F)/\wX.cell? ⟨w.heap.size,1,none⟩=some (.int .i64 L)/\wX.cell? ⟨w.heap.size,2,none⟩=some (.int .i64 Q))/\wX.cell? ⟨gu,3,none⟩=some (.slice u.a4 M.tlb.length u.c4)/\wX.cell? ⟨gu,4,none⟩=some (.slice u.a5 M.wc.length u.c5)):=fun wX hX=>by
  have hu:=h.below (hbb.trans (hX.mono (by omega)))
  refine ⟨⟨?_,?_,?_⟩,hu.q3,hu.q4⟩
  iterate 3 (exact (hX.cell (by simp; omega)).trans (by rw [hwb]; simp [go_sem]))
 have HT2:Hid (∀ k P S O R D,k < M.tlb.length->eAt eTlb M.tlb k=⟨P,S,O,R,D⟩->u.a4=some ⟨gt,0,none⟩/\gt < w.heap.size/\∀ wX,Below wb.heap.size wb wX->wX.cell? ⟨gt,k * 5,none⟩=some (.int .i64 P)/\wX.cell? ⟨gt,k * 5+1,none⟩=some (.int .i64 S)/\wX.cell? ⟨gt,k * 5+2,none⟩=some (.bool D)/\wX.cell? ⟨gt,k * 5+3,none⟩=some (.int .i64 O)/\wX.cell? ⟨gt,k * 5+4,none⟩=some (.int .i64 R)):=fun k P S O R D hk he=>by
  obtain ⟨e1,e2⟩:=ht1 (by omega)
  exact ⟨e1,e2,fun wX hX=>ht2 k P S O R D hk he wX ((hbb.trans (hX.mono (by omega))).block gt e2)⟩
 have HW2:Hid (∀ k L P T D,k < M.wc.length->eAt eWc M.wc k=⟨L,P,T,D⟩->u.a5=some ⟨gw,0,none⟩/\gw < w.heap.size/\∀ wX,Below wb.heap.size wb wX->wX.cell? ⟨gw,k * 5,none⟩=some (.int .i64 P)/\wX.cell? ⟨gw,k * 5+1,none⟩=some (.int .i64 (16 * cov L))/\wX.cell? ⟨gw,k * 5+2,none⟩=some (.bool D)/\wX.cell? ⟨gw,k * 5+3,none⟩=some (.int .i64 L)/\wX.cell? ⟨gw,k * 5+4,none⟩=some (.int .i64 T)):=fun k L P T D hk he=>by
  obtain ⟨e1,e2⟩:=hw1 (by omega)
  exact ⟨e1,e2,fun wX hX=>hw2 k L P T D hk he wX ((hbb.trans (hX.mono (by omega))).block gw e2)⟩
 have HV:Hid (validB M=true):=hv
 have HWB:Hid (wb=_):=hwb
 have HBB:Hid (Below w.heap.size w wb):=hbb
 have HZ:Hid (wb.heap.size=w.heap.size+1):=hzb
 have q3:=h.q3
 obtain ⟨cL,hcL⟩:∃ cL,cL=cov L:=⟨_,rfl⟩
 rw [<- hcL] at hcb hmul hep ⊢
 have hW1:IntKind.i64.wrap (ix * cL)=ix * cL:=by rw [IntKind.wrap_i64]; omega
 obtain ⟨m0,hm0⟩:∃ m0,m0=ix * cL:=⟨_,rfl⟩
 have hW2:IntKind.i64.wrap (Q+ix * cL)=Q+ix * cL:=by rw [IntKind.wrap_i64]; omega
 obtain ⟨fs,hfs⟩:∃ fs,fs=Q+ix * cL:=⟨_,rfl⟩
 have hf0:0<=fs/\fs < 100000:=by omega
 clear h ht1 ht2 hw1 hw2 hv hwb hbb hzb hcL hm0
 go_enter Try.func189,Try.ntmps189
 go_wp2_with (go_at_call 148; refine (hep _).mono ?_; rintro e w1 ⟨rfl,hw1⟩; obtain rfl:=hw1.symm)
 rw [<- HWB.out,<- hfs]
 have HFS:Hid (fs=_):=hfs
 clear hfs hW1 hW2 hmul q3
 go_loopw [27] (fun i wr=>∃ k:Nat,k<=M.tlb.length/\i=.int .i64 k/\Hid (∀ j,j < k->cachT M fs cL j=false)/\Below wb.heap.size wb wr) (fun i _=>M.tlb.length - (intOf i).toNat)
 case atStart=>exact ⟨0,Nat.zero_le _,rfl,fun j hj=>absurd hj (by omega),Below.refl _ _⟩
 case round =>
  obtain ⟨k,hk,rfl,hall,hb⟩:=hrel
  by_cases hlt2:k < M.tlb.length
  ·obtain ⟨E,hE⟩:∃ E,eAt eTlb M.tlb k=E:=⟨_,rfl⟩
   obtain ⟨P,S,O,R,D⟩:=E
   obtain ⟨hae,hgt,hcs⟩:=HT2.out k P S O R D hlt2 hE
   rw [hae]
   obtain ⟨c0,c1,c2,c3,c4⟩:=hcs wr hb
   have htv:=valid_tlb HV.out k hlt2
   rw [hE] at htv
   have hts:(0<=P/\P < 100000)/\(0<=S/\S < 100000):=by
    simp only [tlbOkB,pageOk,Bool.and_eq_true,Bool.or_eq_true,decide_eq_true_eq] at htv
    omega
   obtain ⟨wx,hwx⟩:∃ wx,wx=wr.alloc (.cells #[.int .i64 P,.int .i64 S,.bool D,.int .i64 O,.int .i64 R] 168):=⟨_,rfl⟩
   have hov:=overlaps_any wr.heap.size 0 P S fs cL hts.1 hts.2 hf0 (by omega) wx (by rw [hwx]; simp [go_sem]) (by rw [hwx]; simp [go_sem])
   have bx:Below wb.heap.size wb wx:=by rw [hwx]; exact hb.alloc hb.size _
   have HCT:Hid (cachT M fs cL k=meets P S fs cL):=by unfold cachT; rw [hE]; rfl
   rw [hwx] at hov
   have HWX:Hid (wx=_):=hwx
   have HBX:Hid (Below wb.heap.size wb wx):=bx
   have L1:(0:Int)<=(k:Int):=by omega
   have L2:(k:Int) < (M.tlb.length:Int):=by omega
   clear hwx bx htv hts hE hcs hae
   cases hm:meets P S fs cL <;> rw [hm] at hov
   ·have HF:Hid (cachT M fs cL k=false):=by rw [HCT.out]; exact hm
    clear hm
    go_wp2_with (go_at_call 167; refine hov.mono ?_; rintro e w2 ⟨rfl,hb2⟩)
    rw [<- HWX.out] at hb2
    go_roundw
    case rel =>
     refine ⟨k+1,by omega,by go_num,fun j hj=>?_,HBX.out.trans (hb2.mono HBX.out.size)⟩
     by_cases e:j=k
     ·rw [e]; exact HF.out
     ·exact hall.out j (by omega)
    case measure=>simp [intOf]; omega
   ·have HR:Hid (cachedB M L fs cL=true):=by unfold cachedB; rw [anyR_true _ k _ hlt2 (by rw [HCT.out]; exact hm)]; rfl
    clear hm
    go_wp2_with (go_at_call 167; refine hov.mono ?_; rintro e w2 ⟨rfl,hb2⟩)
    rw [<- HWX.out] at hb2
    go_ret
    exact ⟨by rw [<- HFS.out,HR.out]; rfl,HBB.out.trans ((HBX.out.trans (hb2.mono HBX.out.size)).mono HBB.out.size)⟩
  ·have HTN:Hid (anyR (cachT M fs cL) M.tlb.length=false):=anyR_false _ _ (fun j hj=>hall.out j (by omega))
   obtain ⟨wA,rfl⟩:∃ wA:World,wA=wr:=⟨_,rfl⟩
   have q4A:=(HQ.out wA hb).2.2
   have HBA:Hid (Below wb.heap.size wb wA):=hb
   clear hall hb
   go_wp2_with fail
   clear q4A
   go_loopw [41] (fun i wr=>∃ k:Nat,k<=M.wc.length/\i=.int .i64 k/\Hid (∀ j,j < k->cachW M L fs cL j=false)/\Below wb.heap.size wb wr) (fun i _=>M.wc.length - (intOf i).toNat)
   case atStart=>exact ⟨0,Nat.zero_le _,rfl,fun j hj=>absurd hj (by omega),HBA.out⟩
   case round =>
    obtain ⟨k,hk,rfl,hall,hb⟩:=hrel
    by_cases hlt2:k < M.wc.length
    ·obtain ⟨E,hE⟩:∃ E,eAt eWc M.wc k=E:=⟨_,rfl⟩
     obtain ⟨L2',P,T,D⟩:=E
     obtain ⟨hae,hgt,hcs⟩:=HW2.out k L2' P T D hlt2 hE
     rw [hae]
     obtain ⟨c0,c1,c2,c3,c4⟩:=hcs wr hb
     have htv:=valid_wc HV.out k hlt2
     rw [hE] at htv
     have hts:(0<=P/\P < 100000)/\(L2'=2\/L2'=3):=by
      simp only [wcOkB,pageOk,Bool.and_eq_true,Bool.or_eq_true,decide_eq_true_eq] at htv
      omega
     obtain ⟨S,hS⟩:∃ S,S=16 * cov L2':=⟨_,rfl⟩
     have hS2:0<=S/\S < 100000:=by rw [hS]; rcases hts.2 with rfl | rfl <;> decide
     rw [<- hS] at c1
     obtain ⟨wx,hwx⟩:∃ wx,wx=wr.alloc (.cells #[.int .i64 P,.int .i64 S,.bool D,.int .i64 L2',.int .i64 T] 170):=⟨_,rfl⟩
     have hov:=overlaps_any wr.heap.size 0 P S fs cL hts.1 hS2 hf0 (by omega) wx (by rw [hwx]; simp [go_sem]) (by rw [hwx]; simp [go_sem])
     have bx:Below wb.heap.size wb wx:=by rw [hwx]; exact hb.alloc hb.size _
     have HCT:Hid (cachW M L fs cL k=(decide (L < L2') && meets P S fs cL)):=by unfold cachW; rw [hE,hS]; rfl
     rw [hwx] at hov
     have HWX:Hid (wx=_):=hwx
     have HBX:Hid (Below wb.heap.size wb wx):=bx
     obtain ⟨⟨p0,p1,p2⟩,_,_⟩:=HQ.out wr hb
     have N0:w.heap.size < wr.heap.size:=by have:=hb.size; have:=HZ.out; omega
     have L1:(0:Int)<=(k:Int):=by omega
     have L2:(k:Int) < (M.wc.length:Int):=by omega
     have HBR:Hid (Below wb.heap.size wb wr):=hb
     clear hwx bx htv hts hE hcs hae hb hS
     by_cases hLL:L < L2'
     ·have dL:decide (L < L2')=true:=decide_eq_true hLL
      cases hm:meets P S fs cL <;> rw [hm] at hov
      ·have HF:Hid (cachW M L fs cL k=false):=by rw [HCT.out,hm,Bool.and_false]; rfl
       clear hm
       go_wp2_with (go_at_call 167; refine hov.mono ?_; rintro e w2 ⟨rfl,hb2⟩)
       rw [<- HWX.out] at hb2
       go_roundw
       case rel =>
        refine ⟨k+1,by omega,by go_num,fun j hj=>?_,HBX.out.trans (hb2.mono HBX.out.size)⟩
        by_cases e:j=k
        ·rw [e]; exact HF.out
        ·exact hall.out j (by omega)
       case measure=>simp [intOf]; omega
      ·have HR:Hid (cachedB M L fs cL=true):=by unfold cachedB; rw [anyR_true (cachW M L fs cL) k _ hlt2 (by rw [HCT.out,hm,dL]; rfl),Bool.or_true]; rfl
       clear hm
       go_wp2_with (go_at_call 167; refine hov.mono ?_; rintro e w2 ⟨rfl,hb2⟩)
       rw [<- HWX.out] at hb2
       go_ret
       exact ⟨by rw [<- HFS.out,HR.out]; rfl,HBB.out.trans ((HBX.out.trans (hb2.mono HBX.out.size)).mono HBB.out.size)⟩
     ·have dL:decide (L < L2')=false:=decide_eq_false hLL
      have HF:Hid (cachW M L fs cL k=false):=by rw [HCT.out,dL]; rfl
      clear hov
      go_wp2_with fail
      go_roundw
      case rel =>
       refine ⟨k+1,by omega,by go_num,fun j hj=>?_,HBR.out.alloc HBR.out.size _⟩
       by_cases e:j=k
       ·rw [e]; exact HF.out
       ·exact hall.out j (by omega)
      case measure=>simp [intOf]; omega
    ·have HR:Hid (cachedB M L fs cL=false):=by unfold cachedB; rw [HTN.out,anyR_false _ _ (fun j hj=>hall.out j (by omega))]; rfl
     go_wp2_with fail
     go_ret
     exact ⟨by rw [<- HFS.out,HR.out]; rfl,HBB.out.trans (hb.mono HBB.out.size)⟩
end Go.Proofs.Ytnmhkgmmpkjjeaa
