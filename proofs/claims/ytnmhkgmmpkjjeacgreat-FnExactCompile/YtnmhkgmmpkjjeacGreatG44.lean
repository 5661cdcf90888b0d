import Derived.Test.YtnmhkgmmpkjjeacGreatG43
import Derived.MapKept
namespace Go.Proofs.YtnmhkgmmpkjjeacGreat
open Go.ChangeShapes Go.WideShapes Go.ChangeAt Go.RowKit
set_option linter.unusedVariables false
set_option linter.unusedSimpArgs false
set_option maxRecDepth 100000
attribute [local go_sem ↓] Go.wp_at_zero Go.wp_at_succ
attribute [local go_sem] bs_size bs_cAt bs_app bs_mk bs_cut bs_list
theorem cell_some_lt {w:World} {a:Addr} {v:Value} (h:w.cell? a=some v):a.block < w.heap.size:=by
 unfold World.cell? at h
 by_cases hlt:a.block < w.heap.size
 ·exact hlt
 ·rw [Array.getElem?_eq_none (by omega)] at h
  cases h
theorem PW.below {w w':World} {b at_:Nat} {s:SlE} {ws:List Txt} (h:PW w b at_ s ws) (hb:Below w.heap.size w w'):PW w' b at_ s ws:=by
 have hlt:b < w.heap.size:=cell_some_lt h.pa
 refine ⟨(hb.cell (p:=⟨b,4,none⟩) hlt).trans h.pa,(hb.cell (p:=⟨b,5,none⟩) hlt).trans h.ps,(hb.frozen (p:=⟨b,5,none⟩) hlt).trans h.pf,h.pw.n,h.pw.l,h.pw.c,h.pw.m,fun h0=>?_⟩
 obtain ⟨g,off,ha,hne,hc⟩:=h.pw.r h0
 refine ⟨g,off,ha,hne,fun i hi=>?_⟩
 have:=hc i hi
 exact (hb.cell (p:=⟨g,off+i,none⟩) (cell_some_lt this)).trans this
def TookB (w:World) (b at_:Nat) (ws:List Txt) (w':World):Prop:=∃ w1,TookW w b at_ ws w1/\Below w1.heap.size w1 w'
theorem TookB.pw {w w':World} {b at_:Nat} {ws:List Txt} (h:TookB w b at_ ws w'):∃ s,PW w' b at_ s ws:=by
 obtain ⟨w1,⟨s,_,hp⟩,hb⟩:=h
 exact ⟨s,hp.below hb⟩
theorem number_none (b at_:Nat) (s:SlE) (w:World) (h:PW w b at_ s []):Calls Tryz.prog 168 #[.pointer (some ⟨b,0,none⟩)] w fun e w'=>e=.panicked [{ v:=diagV 4 (at_:Int),recovered:=false }]/\w'=w:=by
 have t1:=next_no b at_ s w h
 clear h
 go_enter Tryz.func168,Tryz.ntmps168
 go_wp2_with fail
 refine t1.mono ?_
 rintro e w1 ⟨rfl,rfl⟩
 exact ⟨rfl,rfl,rfl⟩
theorem number_yes (b at_:Nat) (s:SlE) (x:Txt) (ws:List Txt) (w:World) (h:PW w b at_ s (x :: ws)) (hl:x.length<=20000) (hn:numOk x=true):Calls Tryz.prog 168 #[.pointer (some ⟨b,0,none⟩)] w fun e w'=>e=.returned (.int .i64 (valL x:Int))/\TookB w b at_ ws w':=by
 have t1:=next_yes b at_ s x ws w h
 have HN:Hid (∀ wX,Calls Tryz.prog 181 #[.string (bs x)] wX fun e w'=>e=.returned (.tuple #[.int .i64 (valL x:Int),.bool true])/\Below wX.heap.size wX w'):=hidP (fun wX=>(numberOf_any x wX hl).mono fun e w' hh=>⟨hh.1 hn,hh.2.2⟩)
 have HF:Hid (∀ wX,Calls Tryz.prog 154 #[.pointer (some ⟨b,0,none⟩),.bool false,.int .i64 4] wX fun e w'=>e=.returned (.tuple #[])/\w'=wX):=hidP (fun wX=>refuse_no b 4 wX)
 clear h hn
 go_enter Tryz.func168,Tryz.ntmps168
 go_wp2_with fail
 refine t1.mono ?_
 rintro e w1 ⟨rfl,htk⟩
 have HTK:Hid (TookW w b at_ ws w1):=htk
 have t2:=HN.out w1
 clear t1 htk HN
 go_wp2_with fail
 refine t2.mono ?_
 rintro e w2 ⟨rfl,hb2⟩
 have HB2:Hid (Below w1.heap.size w1 w2):=hb2
 have t3:=HF.out w2
 clear t2 hb2 HF
 go_wp2_with fail
 refine t3.mono ?_
 rintro e w3 ⟨rfl,ew⟩
 obtain rfl:w2=w3:=ew.symm
 clear t3
 go_wp2_with fail
 go_ret
 exact ⟨rfl,w1,HTK.out,HB2.out⟩
theorem number_no (b at_:Nat) (s:SlE) (x:Txt) (ws:List Txt) (w:World) (h:PW w b at_ s (x :: ws)) (hl:x.length<=20000) (hn:numOk x=false):Calls Tryz.prog 168 #[.pointer (some ⟨b,0,none⟩)] w fun e w'=>e=.panicked [{ v:=diagV 4 (at_:Int),recovered:=false }]/\TookB w b at_ ws w':=by
 have t1:=next_yes b at_ s x ws w h
 have HN:Hid (∀ wX,Calls Tryz.prog 181 #[.string (bs x)] wX fun e w'=>e=.returned (.tuple #[.int .i64 0,.bool false])/\Below wX.heap.size wX w'):=hidP (fun wX=>(numberOf_any x wX hl).mono fun e w' hh=>⟨hh.2.1 hn,hh.2.2⟩)
 clear h hn
 go_enter Tryz.func168,Tryz.ntmps168
 go_wp2_with fail
 refine t1.mono ?_
 rintro e w1 ⟨rfl,htk⟩
 have HTK:Hid (TookW w b at_ ws w1):=htk
 have t2:=HN.out w1
 clear t1 htk HN
 go_wp2_with fail
 refine t2.mono ?_
 rintro e w2 ⟨rfl,hb2⟩
 have HTB:Hid (TookB w b at_ ws w2):=hidP ⟨w1,HTK.out,hb2⟩
 have t3:Hid (Calls Tryz.prog 154 #[.pointer (some ⟨b,0,none⟩),.bool true,.int .i64 4] w2 fun e w'=>e=.panicked [{ v:=diagV 4 (at_:Int),recovered:=false }]/\w'=w2):=hidP (by obtain ⟨s',hp⟩:=HTB.out.pw; exact refuse_yes b 4 at_ w2 hp.pa)
 clear t2 hb2
 go_wp2_with fail
 refine t3.out.mono ?_
 rintro e w3 ⟨rfl,ew⟩
 obtain rfl:w2=w3:=ew.symm
 exact ⟨rfl,rfl,HTB.out⟩
theorem sc_ne:∀ (r:Txt) (w:Txt) (cm:Bool) (i:Nat) (st:List (List Txt)) (re:List Txt) (st':List (List Txt)) (re':List Txt),(∀ s ∈ st,∀ x ∈ s,x ≠ [])->(∀ x ∈ re,x ≠ [])->sc w cm i st re r=.inr (st',re')->(∀ s ∈ st',∀ x ∈ s,x ≠ [])/\∀ x ∈ re',x ≠ []
 | [],w,cm,i,st,re,st',re',hs,hr,h=>by
  unfold sc at h
  cases h
  refine ⟨hs,fun x hx=>?_⟩
  rcases List.mem_append.1 hx with h | h
  ·exact hr x h
  ·unfold flush at h
   split at h
   ·cases h
   ·rename_i hw
    rw [List.mem_singleton.1 h]
    exact hw
 | c :: r,w,cm,i,st,re,st',re',hs,hr,h=>by
  have hrf:∀ x ∈ re ++ flush w,x ≠ []:=by
   intro x hx
   rcases List.mem_append.1 hx with h | h
   ·exact hr x h
   ·unfold flush at h
    split at h
    ·cases h
    ·rename_i hw
     rw [List.mem_singleton.1 h]
     exact hw
  unfold sc at h
  split at h
  ·split at h
   ·exact sc_ne r _ _ _ _ _ _ _ hs hr h
   ·exact sc_ne r _ _ _ _ _ _ _ hs hr h
  ·split at h
   ·exact sc_ne r _ _ _ _ _ _ _ hs hr h
   ·split at h
    ·exact sc_ne r _ _ _ _ _ _ _ hs hrf h
    ·split at h
     ·refine sc_ne r _ _ _ _ _ _ _ (fun s hs'=>?_) (fun x hx=>by cases hx) h
      rcases List.mem_append.1 hs' with h' | h'
      ·exact hs s h'
      ·rw [List.mem_singleton.1 h']; exact hrf
     ·split at h
      ·exact sc_ne r _ _ _ _ _ _ _ hs hrf h
      ·cases h
end Go.Proofs.YtnmhkgmmpkjjeacGreat
namespace Go.Proofs.YtnmhkgmmpkjjeacGreat
open Go.ChangeShapes Go.WideShapes Go.ChangeAt Go.RowKit
set_option linter.unusedVariables false
set_option linter.unusedSimpArgs false
set_option maxRecDepth 100000
attribute [local go_sem ↓] Go.wp_at_zero Go.wp_at_succ
structure RunE where
 f:Int
 c:Int
def eRunR:Elt RunE:=⟨169,2,fun x=>[.int .i64 x.f,.int .i64 x.c],⟨0,0⟩,by omega,fun _=>rfl⟩
theorem infoRunR:(Tryz.prog.info? 169).map (fun i=>(i.zero,i.size,i.bytes))=some (some (.agg #[.int .i64 0,.int .i64 0]),2,16):=by kernel_rfl
structure RnB (x:RunE):Prop where
 f:0<=x.f/\x.f<=1000000
 c:0<=x.c/\x.c<=1000000
def fitsB (x:RunE) (lim:Int):Bool:=decide (1<=x.c) && decide (x.f+x.c<=lim)
theorem fits_any (x:RunE) (lim:Int) (w:World) (hx:RnB x):Calls Tryz.prog 171 #[.agg #[.int .i64 x.f,.int .i64 x.c],.int .i64 lim] w fun e w'=>e=.returned (.bool (fitsB x lim))/\Below w.heap.size w w':=by
 have b1:=hx.f
 have b2:=hx.c
 have W1:IntKind.i64.wrap (x.f+x.c)=x.f+x.c:=by rw [IntKind.wrap_i64]; omega
 obtain ⟨F,C⟩:=x
 dsimp only at b1 b2 W1
 clear hx
 unfold fitsB
 dsimp only
 by_cases h1:1<=C
 ·have e1:decide (1<=C)=true:=by simpa using h1
  rw [e1,Bool.true_and]
  clear h1
  go_enter Tryz.func171,Tryz.ntmps171
  go_wp2_with fail
  go_ret
  exact ⟨rfl,bal⟩
 ·have e1:decide (1<=C)=false:=by simpa using h1
  rw [e1,Bool.false_and]
  clear h1
  go_enter Tryz.func171,Tryz.ntmps171
  go_wp2_with fail
  go_ret
  exact ⟨rfl,bal⟩
def meetR (x o:RunE):Bool:=decide (x.f < o.f+o.c) && decide (o.f < x.f+x.c)
theorem runCells {w:World} {b cap:Nat} {a:Option Addr} {xs:List RunE} (h:ERow eRunR w b (.slice a xs.length cap) xs) :
  ∀ k,k < xs.length->∃ g,a=some ⟨g,0,none⟩/\g < w.heap.size/\∀ wX,Below w.heap.size w wX->wX.cell? ⟨g,k * 2,none⟩=some (.int .i64 (eAt eRunR xs k).f)/\wX.cell? ⟨g,k * 2+1,none⟩=some (.int .i64 (eAt eRunR xs k).c):=by
 intro k hk
 obtain ⟨a',c',e,hf⟩:=h.form
 simp only [Value.slice.injEq] at e
 obtain ⟨e1,_,e3⟩:=e
 obtain ⟨g,N,f,hag,hbg,hr,hN,hc⟩:=hf (by omega)
 refine ⟨g,e1.trans hag,hr.lt,fun wX hX=>?_⟩
 have hl:k * 2+1 < N:=by have:xs.length * 2<=N:=hN; omega
 have c0:=hr.cell (i:=k * 2) (by omega)
 have c1:=hr.cell (i:=k * 2+1) hl
 have f0:f (k * 2+0)=eCell eRunR xs k 0:=hc k hk 0 (by decide)
 have f1:f (k * 2+1)=eCell eRunR xs k 1:=hc k hk 1 (by decide)
 rw [Nat.add_zero] at f0
 rw [f0] at c0
 rw [f1] at c1
 exact ⟨(hX.cell (p:=⟨g,k * 2,none⟩) hr.lt).trans (c0.trans rfl),(hX.cell (p:=⟨g,k * 2+1,none⟩) hr.lt).trans (c1.trans rfl)⟩
set_option maxHeartbeats 2000000 in
theorem meets_any (x:RunE) (a:Option Addr) (cap b:Nat) (xs:List RunE) (w:World) (hx:RnB x) (hxs:∀ i,i < xs.length->RnB (eAt eRunR xs i)) (hl:xs.length<=100000) (h:ERow eRunR w b (.slice a xs.length cap) xs):Calls Tryz.prog 172 #[.agg #[.int .i64 x.f,.int .i64 x.c],.slice a xs.length cap] w fun e w'=>e=.returned (.bool (xs.any (meetR x)))/\Below w.heap.size w w':=by
 have b1:=hx.f
 have b2:=hx.c
 have W1:IntKind.i64.wrap (x.f+x.c)=x.f+x.c:=by rw [IntKind.wrap_i64]; omega
 have HC:Hid (∀ k,k < xs.length->∃ g o,a=some ⟨g,0,none⟩/\g < w.heap.size/\eAt eRunR xs k=o/\RnB o/\∀ wX,Below w.heap.size w wX->wX.cell? ⟨g,k * 2,none⟩=some (.int .i64 o.f)/\wX.cell? ⟨g,k * 2+1,none⟩=some (.int .i64 o.c)):=hidP (fun k hk=>by
  obtain ⟨g,e,hg,hc⟩:=runCells h k hk
  exact ⟨g,_,e,hg,rfl,hxs k hk,hc⟩)
 clear hx h hxs
 refine calls_o 32 Tryz.func172 rfl (by rfl) (by simp) ?_
 intro tm hsz hla
 have s0:=hla 0 (by simp)
 have s1:=hla 1 (by simp)
 clear hla
 simp only [List.getElem_toArray,List.getElem_cons_zero,List.getElem_cons_succ] at s0 s1
 go_upto_region 1 with fail
 obtain ⟨w0,hw0⟩:∃ w0,w0=w.alloc (.cells #[.int .i64 x.f,.int .i64 x.c] 169):=⟨_,rfl⟩
 rw [<- hw0]
 have HB0:Hid (Below w.heap.size w w0):=hidP (by rw [hw0]; exact bal)
 have HY:Hid (w0.cell? ⟨w.heap.size,0,none⟩=some (.int .i64 x.f)/\w0.cell? ⟨w.heap.size,1,none⟩=some (.int .i64 x.c)/\w.heap.size < w0.heap.size):=hidP (by rw [hw0]; refine ⟨?_,?_,?_⟩ <;> simp [go_sem])
 clear hw0
 go_wp2_with fail
 refine wp_loop_o 32 (fun j tm wr=>∃ k:Nat,j=xs.length - k/\k<=xs.length/\Fs tm [(2,.pointer (some ⟨w.heap.size,0,none⟩)),(7,.slice a xs.length cap),(8,.int .i64 (xs.length:Int)),(9,.int .i64 (k:Int))]/\Below w0.heap.size w0 wr/\∀ j,j < k->meetR x (eAt eRunR xs j)=false) xs.length (by simp [hsz]) ⟨0,by omega,by omega,by simp only [Fs]; and_intros <;> simp [hsz,s0,s1],Below.refl _ _,fun j hj=>absurd hj (Nat.not_lt_zero _)⟩ ?_
 clear s0 s1 hsz
 clear tm
 intro j tm wr J K hsz hI hJ hK
 obtain ⟨k,hj,hk,hs,hbr,hno⟩:=hI
 simp only [Fs] at hs
 obtain ⟨s2,s7,s8,s9,-⟩:=hs
 subst hj
 have HBR:Hid (Below w0.heap.size w0 wr):=hbr
 have HNO:Hid (∀ j,j < k->meetR x (eAt eRunR xs j)=false):=hno
 have y0:wr.cell? ⟨w.heap.size,0,none⟩=some (.int .i64 x.f):=(hbr.cell (p:=⟨w.heap.size,0,none⟩) HY.out.2.2).trans HY.out.1
 have y1:wr.cell? ⟨w.heap.size,1,none⟩=some (.int .i64 x.c):=(hbr.cell (p:=⟨w.heap.size,1,none⟩) HY.out.2.2).trans HY.out.2.1
 have hBl:w.heap.size < wr.heap.size:=Nat.lt_of_lt_of_le HY.out.2.2 hbr.size
 clear hbr hno
 by_cases hlt:k < xs.length
 ·have K0:(0:Int)<=(k:Int):=by omega
  have K1:(k:Int) < (xs.length:Int):=by omega
  have W5:IntKind.i64.wrap ((k:Int)+1)=(k:Int)+1:=by rw [IntKind.wrap_i64]; omega
  obtain ⟨g,o,rfl,hg,ho,hro,hc⟩:=HC.out k hlt
  obtain ⟨u0,u1⟩:=hc wr (HB0.out.trans (HBR.out.mono HB0.out.size))
  have b3:=hro.f
  have b4:=hro.c
  have W2:IntKind.i64.wrap (o.f+o.c)=o.f+o.c:=by rw [IntKind.wrap_i64]; omega
  have HMT:Hid (meetR x (eAt eRunR xs k)=(decide (x.f < o.f+o.c) && decide (o.f < x.f+x.c))):=hidP (by rw [ho]; rfl)
  clear hc hro ho
  go_upto_if 10 with fail
  refine wp_cond_true (by go_simp <;> omega) ?_
  go_upto_region 4 with fail
  obtain ⟨w2,hw2⟩:∃ w2,w2=wr.alloc (.cells #[.int .i64 o.f,.int .i64 o.c] 169):=⟨_,rfl⟩
  rw [<- hw2]
  have z0:w2.cell? ⟨wr.heap.size,0,none⟩=some (.int .i64 o.f):=by rw [hw2]; simp [go_sem]
  have z1:w2.cell? ⟨wr.heap.size,1,none⟩=some (.int .i64 o.c):=by rw [hw2]; simp [go_sem]
  have hb2:Below wr.heap.size wr w2:=by rw [hw2]; exact bal
  have HB2:Hid (Below w0.heap.size w0 w2):=hidP (HBR.out.trans (hb2.mono HBR.out.size))
  replace y0:=(hb2.cell (p:=⟨w.heap.size,0,none⟩) hBl).trans y0
  replace y1:=(hb2.cell (p:=⟨w.heap.size,1,none⟩) hBl).trans y1
  clear hw2 hb2 u0 u1
  by_cases h1:x.f < o.f+o.c
  ·have e1:decide (x.f < o.f+o.c)=true:=by simpa using h1
   by_cases h2:o.f < x.f+x.c
   ·have e2:decide (o.f < x.f+x.c)=true:=by simpa using h2
    have HR:Hid (xs.any (meetR x)=true):=hidP (by
     rw [List.any_eq_true]
     refine ⟨eAt eRunR xs k,?_,by rw [HMT.out,e1,e2]; rfl⟩
     unfold eAt
     rw [List.getD_eq_getElem?_getD,List.getElem?_eq_getElem hlt]
     exact List.getElem_mem _)
    clear h1 h2
    go_upto_if 30 with fail
    refine wp_cond_true (by go_simp) ?_
    go_wp2_with fail
    exact bodyPost_ret (v:=.bool true) (by simp [results,Tryz.results172,go_sem,hsz]) rfl ⟨by rw [HR.out],HB0.out.trans (HB2.out.mono HB0.out.size)⟩
   ·have e2:decide (o.f < x.f+x.c)=false:=by simpa using h2
    have HN:Hid (∀ j,j < k+1->meetR x (eAt eRunR xs j)=false):=hidP (fun j hj=>by
     rcases Nat.lt_or_ge j k with h | h
     ·exact HNO.out j h
     ·obtain rfl:j=k:=by omega
      rw [HMT.out,e1,e2]; rfl)
    clear h1 h2
    go_upto_if 30 with fail
    refine wp_cond_false (by go_simp) ?_
    go_wp2_with fail
    refine Met.intro (hJ (xs.length - (k+1)) _ _ (by simp [hsz]) ⟨k+1,rfl,by omega,by rw [show ((k+1:Nat):Int)=(k:Int)+1 by omega]; simp only [Fs]; and_intros <;> simp [hsz,s2,s7,s8,s9],HB2.out,HN.out⟩ (by omega))
  ·have e1:decide (x.f < o.f+o.c)=false:=by simpa using h1
   have HN:Hid (∀ j,j < k+1->meetR x (eAt eRunR xs j)=false):=hidP (fun j hj=>by
    rcases Nat.lt_or_ge j k with h | h
    ·exact HNO.out j h
    ·obtain rfl:j=k:=by omega
     rw [HMT.out,e1]; rfl)
   clear h1
   go_upto_if 30 with fail
   refine wp_cond_false (by go_simp) ?_
   go_wp2_with fail
   refine Met.intro (hJ (xs.length - (k+1)) _ _ (by simp [hsz]) ⟨k+1,rfl,by omega,by rw [show ((k+1:Nat):Int)=(k:Int)+1 by omega]; simp only [Fs]; and_intros <;> simp [hsz,s2,s7,s8,s9],HB2.out,HN.out⟩ (by omega))
 ·obtain rfl:k=xs.length:=by omega
  have K2:¬ (xs.length:Int) < (xs.length:Int):=by omega
  have HR:Hid (xs.any (meetR x)=false):=hidP (by
   rw [List.any_eq_false]
   intro o ho
   obtain ⟨i,hi,e⟩:=List.mem_iff_getElem.1 ho
   have:=HNO.out i hi
   unfold eAt at this
   rw [List.getD_eq_getElem?_getD,List.getElem?_eq_getElem hi] at this
   subst e
   simpa using this)
  go_upto_if 10 with fail
  refine wp_cond_false (by go_simp <;> omega) ?_
  go_wp2_with fail
  exact bodyPost_ret (v:=.bool false) (by simp [results,Tryz.results172,go_sem,hsz]) rfl ⟨by rw [HR.out],HB0.out.trans (HBR.out.mono HB0.out.size)⟩
end Go.Proofs.YtnmhkgmmpkjjeacGreat
namespace Go.Proofs.YtnmhkgmmpkjjeacGreat
set_option linter.unusedVariables false
set_option linter.unusedSimpArgs false
set_option maxRecDepth 100000
def kObj:Txt:=[111,98,106,101,99,116]
def kReg:Txt:=[114,101,103,105,111,110]
def kGrd:Txt:=[103,117,97,114,100]
def kAtR:Txt:=[97,116]
def kSha:Txt:=[115,104,97,114,101,100]
def kHug:Txt:=[104,117,103,101]
def prObj:List Txt->St
 | [n,c,a,f]=>if nameL n=true/\numOk c=true/\a=kAtR/\numOk f=true then ⟨1,n,valL c,valL f,0,false⟩ else noSt
 | [n,c,a,f,s]=>if nameL n=true/\numOk c=true/\a=kAtR/\numOk f=true/\s=kSha then ⟨1,n,valL c,valL f,0,true⟩ else noSt
 | _=>noSt
def prReg:List Txt->St
 | [p,n,q]=>if numOk p=true/\nameL n=true/\¬ permL q=0 then ⟨2,n,valL p,0,permL q,false⟩ else noSt
 | [p,n,q,s]=>if numOk p=true/\nameL n=true/\¬ permL q=0/\s=kHug then ⟨2,n,valL p,0,permL q,true⟩ else noSt
 | _=>noSt
def prGrd:List Txt->St
 | [p,c]=>if numOk p=true/\numOk c=true then ⟨3,[],valL p,valL c,0,false⟩ else noSt
 | _=>noSt
def prSt:List Txt->St
 | []=>noSt
 | h :: t=>if h=kObj then prObj t else if h=kReg then prReg t else if h=kGrd then prGrd t else noSt
theorem numL_ok {x:Txt} (h:numOk x=true):numL x=valL x/\¬ numL x < 0:=by
 unfold numL
 rw [if_pos h]
 exact ⟨rfl,by omega⟩
theorem numL_no {x:Txt} (h:¬ numOk x=true):numL x < 0:=by
 unfold numL
 rw [if_neg h]
 omega
theorem objL_eq (t:List Txt):(if (kObj :: t).length < 3 then noSt else objL (kObj :: t))=prObj t:=by
 match t with
 | []=>rfl
 | [_]=>rfl
 | [_,_]=>rfl
 | [_,_,_]=>rfl
 | [n,c,a,f] =>
  show objL [kObj,n,c,a,f]=prObj [n,c,a,f]
  by_cases h1:nameL n=true
  ·by_cases h3:a=kAtR
   ·by_cases h2:numOk c=true
    ·by_cases h4:numOk f=true
     ·obtain ⟨e1,e2⟩:=numL_ok h2
      obtain ⟨e3,e4⟩:=numL_ok h4
      have e5:¬ ((valL c:Int) < 0\/(valL f:Int) < 0):=by omega
      simp [objL,prObj,tAt,h1,h2,h3,h4,kAtR,e1,e3,e5]
     ·have:=numL_no h4
      simp [objL,prObj,tAt,h1,h2,h3,h4,kAtR,this]
    ·have:=numL_no h2
     simp [objL,prObj,tAt,h1,h2,h3,kAtR,this]
   ·have h3':¬ a=[97,116]:=h3
    simp [objL,prObj,tAt,h3,h3']
  ·simp [objL,prObj,tAt,h1]
 | [n,c,a,f,s] =>
  show objL [kObj,n,c,a,f,s]=prObj [n,c,a,f,s]
  by_cases h1:nameL n=true
  ·by_cases h3:a=kAtR
   ·by_cases h5:s=kSha
    ·by_cases h2:numOk c=true
     ·by_cases h4:numOk f=true
      ·obtain ⟨e1,e2⟩:=numL_ok h2
       obtain ⟨e3,e4⟩:=numL_ok h4
       have e5:¬ ((valL c:Int) < 0\/(valL f:Int) < 0):=by omega
       simp [objL,prObj,tAt,h1,h2,h3,h4,h5,kAtR,kSha,e1,e3,e5]
      ·have:=numL_no h4
       simp [objL,prObj,tAt,h1,h2,h3,h4,h5,kAtR,kSha,this]
     ·have:=numL_no h2
      simp [objL,prObj,tAt,h1,h2,h3,h5,kAtR,kSha,this]
    ·have h5':¬ s=[115,104,97,114,101,100]:=h5
     simp [objL,prObj,tAt,h1,h3,h5,kAtR,h5']
   ·have h3':¬ a=[97,116]:=h3
    simp [objL,prObj,tAt,h3,h3']
  ·simp [objL,prObj,tAt,h1]
 | _ :: _ :: _ :: _ :: _ :: _ :: _ =>
  unfold objL prObj
  simp
theorem regL_eq (t:List Txt):(if (kReg :: t).length < 3 then noSt else regL (kReg :: t))=prReg t:=by
 match t with
 | []=>rfl
 | [_]=>rfl
 | [_,_]=>rfl
 | [p,n,q] =>
  show regL [kReg,p,n,q]=prReg [p,n,q]
  by_cases h1:nameL n=true
  ·by_cases h2:numOk p=true
   ·obtain ⟨e1,e2⟩:=numL_ok h2
    have e5:¬ (valL p:Int) < 0:=by omega
    by_cases h3:permL q=0
    ·simp [regL,prReg,tAt,h1,h2,h3]
    ·simp [regL,prReg,tAt,h1,h2,h3,e1,e5]
   ·have:=numL_no h2
    simp [regL,prReg,tAt,h1,h2,this]
  ·simp [regL,prReg,tAt,h1]
 | [p,n,q,s] =>
  show regL [kReg,p,n,q,s]=prReg [p,n,q,s]
  by_cases h1:nameL n=true
  ·by_cases h5:s=kHug
   ·by_cases h2:numOk p=true
    ·obtain ⟨e1,e2⟩:=numL_ok h2
     have e5:¬ (valL p:Int) < 0:=by omega
     by_cases h3:permL q=0
     ·simp [regL,prReg,tAt,h1,h2,h3,h5,kHug]
     ·simp [regL,prReg,tAt,h1,h2,h3,h5,kHug,e1,e5]
    ·have:=numL_no h2
     simp [regL,prReg,tAt,h1,h2,h5,kHug,this]
   ·have h5':¬ s=[104,117,103,101]:=h5
    simp [regL,prReg,tAt,h1,h5,h5']
  ·simp [regL,prReg,tAt,h1]
 | _ :: _ :: _ :: _ :: _ :: _ =>
  unfold regL prReg
  simp
theorem grdL_eq (t:List Txt):(if (kGrd :: t).length < 3 then noSt else if (kGrd :: t).length=3 then grdL (kGrd :: t) else noSt)=prGrd t:=by
 match t with
 | []=>rfl
 | [_]=>rfl
 | [p,c] =>
  show grdL [kGrd,p,c]=prGrd [p,c]
  by_cases h2:numOk p=true
  ·by_cases h4:numOk c=true
   ·obtain ⟨e1,e2⟩:=numL_ok h2
    obtain ⟨e3,e4⟩:=numL_ok h4
    have e5:¬ ((valL p:Int) < 0\/(valL c:Int) < 0):=by omega
    simp [grdL,prGrd,tAt,h2,h4,e1,e3,e5]
   ·have:=numL_no h4
    simp [grdL,prGrd,tAt,h2,h4,this]
  ·have:=numL_no h2
   simp [grdL,prGrd,tAt,h2,this]
 | _ :: _ :: _ :: _ =>
  unfold prGrd
  simp
theorem prSt_eq (ts:List Txt):prSt ts=stmtL ts:=by
 cases ts with
 | nil=>rfl
 | cons h t =>
  have e0:tAt (h :: t) 0=h:=rfl
  unfold prSt stmtL
  rw [e0]
  dsimp only
  by_cases h1:h=kObj
  ·subst h1
   rw [if_pos rfl,<- objL_eq t]
   rfl
  ·have h1':(h == [111,98,106,101,99,116])=false:=beq_eq_false_iff_ne.2 h1
   rw [if_neg h1,h1']
   by_cases h2:h=kReg
   ·subst h2
    rw [if_pos rfl,<- regL_eq t]
    rfl
   ·have h2':(h == [114,101,103,105,111,110])=false:=beq_eq_false_iff_ne.2 h2
    rw [if_neg h2,h2']
    by_cases h3:h=kGrd
    ·subst h3
     rw [if_pos rfl,<- grdL_eq t]
     by_cases hl:(kGrd :: t).length=3
     ·simp [hl,kGrd]
     ·have hl':¬ t.length=2:=by simpa using hl
      simp [hl']
    ·have h3':(h == [103,117,97,114,100])=false:=beq_eq_false_iff_ne.2 h3
     rw [if_neg h3,h3']
     simp
def framesOf (all:List St):List RunE:=(all.filter fun e=>e.kind == 1).map fun e=>⟨e.b,e.a⟩
theorem framesOf_any (all:List St) (s:St):(framesOf all).any (meetR ⟨s.b,s.a⟩)=all.any (hitObj s):=by
 unfold framesOf
 rw [List.any_map,List.any_filter]
 congr 1
theorem framesOf_snoc (all:List St) (s:St):framesOf (all ++ [s])=if s.kind == 1 then framesOf all ++ [⟨s.b,s.a⟩] else framesOf all:=by
 unfold framesOf
 rw [List.filter_append,List.map_append,List.filter_cons]
 split <;> simp
theorem objOf_snoc (all:List St) (s:St) (n:Txt):objOf (all ++ [s]) n=if (objOf all n).kind == 1 then objOf all n else if isObj n s then s else noSt:=by
 induction all with
 | nil=>simp [objOf,noSt]
 | cons e r ih =>
  rw [List.cons_append]
  unfold objOf
  by_cases h:isObj n e=true
  ·rw [if_pos h,if_pos h]
   have:(e.kind == 1)=true:=by unfold isObj at h; simp at h; simpa using h.1
   rw [if_pos this]
  ·rw [if_neg h,if_neg h]
   exact ih
end Go.Proofs.YtnmhkgmmpkjjeacGreat
namespace Go.Proofs.YtnmhkgmmpkjjeacGreat
open Go.ChangeShapes Go.WideShapes Go.ChangeAt Go.RowKit
set_option linter.unusedVariables false
set_option linter.unusedSimpArgs false
set_option maxRecDepth 100000
structure OV where
 f:Int
 c:Int
 sh:Bool
 pm:Int
abbrev oV (o:OV):Value:=.agg #[.int .i64 o.f,.int .i64 o.c,.bool o.sh,.int .i64 o.pm]
structure MO (es:Array MapEntry) (g:Txt->Option OV):Prop where
 k:∀ (i:Nat) (x:MapEntry),es[i]?=some x->∃ n v,x.key=.string (bs n)/\g n=some v/\x.val=oV v
 d:∀ (i j:Nat) (x y:MapEntry),es[i]?=some x->es[j]?=some y->x.key=y.key->i=j
 h:∀ n v,g n=some v->∃ (i:Nat) (x:MapEntry),es[i]?=some x/\x.key=.string (bs n)
def MapO (w:World) (B:Nat) (g:Txt->Option OV):Prop:=∃ es c,w.heap[B]?=some (.map es c)/\MO es g
theorem MO.keys {es:Array MapEntry} {g:Txt->Option OV} (h:MO es g):∀ x ∈ es.toList,MapKept.IsKey .string x.key:=by
 intro x hx
 obtain ⟨i,hi,e⟩:=List.mem_iff_getElem.1 hx
 obtain ⟨n,v,e1,_⟩:=h.k i x (by rw [<- e]; simp)
 rw [e1]
 trivial
theorem strInj {a b:Txt} (h:Value.string (bs a)=Value.string (bs b)):a=b:=bs_inj (by injection h)
theorem MO.find {es:Array MapEntry} {g:Txt->Option OV} (h:MO es g) (n:Txt) :
  (Instr.findNow .string (.string (bs n)) es.toList 0=some none/\g n=none)\/∃ (j:Nat) (e:MapEntry) (v:OV),Instr.findNow .string (.string (bs n)) es.toList 0=some (some (j,oV v))/\es[j]?=some e/\e.key=.string (bs n)/\g n=some v:=by
 rcases MapKept.findNow_spec (d:=.string) (k:=.string (bs n)) trivial es.toList 0 h.keys with ⟨h1,h2⟩ | ⟨j,e,h1,h2,h3⟩
 ·refine .inl ⟨h1,?_⟩
  cases hg:g n with
  | none=>rfl
  | some v =>
   obtain ⟨i,x,hx,hk⟩:=h.h n v hg
   exact absurd hk (h2 x (by
    obtain ⟨hi,e⟩:=Array.getElem?_eq_some_iff.1 hx
    rw [<- e]
    simp))
 ·have hj:es[j]?=some e:=by simpa using h2
  obtain ⟨m,v,e1,e2,e3⟩:=h.k j e hj
  rw [h3] at e1
  obtain rfl:=strInj e1
  refine .inr ⟨j,e,v,?_,hj,h3,e2⟩
  rw [h1,e3,Nat.zero_add]
theorem zeroObj (w:World):(zeroValue 219).run Tryz.prog w=.ok (oV ⟨0,0,false,0⟩) w:=by kernel_rfl
theorem strU:Tryz.prog.underlying 9=some .string:=by kernel_rfl
def seeO (g:Txt->Option OV) (n:Txt):OV:=(g n).getD ⟨0,0,false,0⟩
theorem run_lookO (B:Nat) (g:Txt->Option OV) (n:Txt) (w:World) (h:MapO w B g) :
  (Instr.lookup 178 (.map (some B)) (.string (bs n)) true).run Tryz.prog w=.ok (.tuple #[oV (seeO g n),.bool (g n).isSome]) w:=by
 obtain ⟨es,c,hb,hm⟩:=h
 unfold Instr.lookup seeO
 have ck:(Instr.checkKey es.isEmpty 10000 9 (.string (bs n))).run Tryz.prog w=.ok () w:=MapKept.run_checkKey (P:=Tryz.prog) (w:=w) (kt:=9) (d:=.string) (k:=.string (bs n)) strU trivial _ 9999
 rcases hm.find n with ⟨h1,h2⟩ | ⟨j,e,v,h1,h2,h3,h4⟩
 ·have hf:=MapKept.run_findKey (P:=Tryz.prog) (w:=w) strU h1
  simp only [Sem.run_bind,run_underlying Tryz.underlying178,Result.andThen_ok,MapKept.run_getObj_map hb,Sem.run_pure,ck,hf,h2]
  simp [zeroObj]
 ·have hf:=MapKept.run_findKey (P:=Tryz.prog) (w:=w) strU h1
  simp only [Sem.run_bind,run_underlying Tryz.underlying178,Result.andThen_ok,MapKept.run_getObj_map hb,Sem.run_pure,ck,hf,h4]
  simp
def setG (g:Txt->Option OV) (n:Txt) (v:OV):Txt->Option OV:=fun m=>if m=n then some v else g m
theorem run_putO (B:Nat) (g:Txt->Option OV) (n:Txt) (v:OV) (w:World) (h:MapO w B g) :
  ∃ w',(Instr.mapUpdate 178 (.map (some B)) (.string (bs n)) (oV v)).run Tryz.prog w=.ok () w'/\MapO w' B (setG g n v)/\w.grownBy w' (some B)/\w'.heap.size=w.heap.size:=by
 obtain ⟨es,c,hb,hm⟩:=h
 have hlt:B < w.heap.size:=(Array.getElem?_eq_some_iff.1 hb).1
 have ck:(Instr.checkKey false 10000 9 (.string (bs n))).run Tryz.prog w=.ok () w:=MapKept.run_checkKey (P:=Tryz.prog) (w:=w) (kt:=9) (d:=.string) (k:=.string (bs n)) strU trivial _ 9999
 rcases hm.find n with ⟨h1,h2⟩ | ⟨j,e,v0,h1,h2,h3,h4⟩
 ·have hf:=MapKept.run_findKey (P:=Tryz.prog) (w:=w) strU h1
  refine ⟨{ w with heap:=w.heap.setIfInBounds B (.map (es.push { key:=.string (bs n),val:=oV v,born:=c }) (c+1)) },?_,⟨es.push { key:=.string (bs n),val:=oV v,born:=c },c+1,(MapKept.heap_set hb).1,?_⟩,⟨rfl,rfl,rfl,by simp,fun k hk hne=>(MapKept.heap_set hb).2 k (fun e=>hne (by rw [e]))⟩,by simp⟩
  ·unfold Instr.mapUpdate
   simp only [Sem.run_bind,run_underlying Tryz.underlying178,Result.andThen_ok,MapKept.run_getObj_map hb,ck,hf]
   exact MapKept.run_setObj_map _ hb
  ·have old:∀ (i:Nat) (x:MapEntry),(es.push { key:=.string (bs n),val:=oV v,born:=c })[i]?=some x->(es[i]?=some x)\/(i=es.size/\x={ key:=.string (bs n),val:=oV v,born:=c }):=by
    intro i x hx
    rw [Array.getElem?_push] at hx
    split at hx
    ·rename_i hi
     injection hx with hx
     exact .inr ⟨hi,hx.symm⟩
    ·exact .inl hx
   have nk:∀ (i:Nat) (x:MapEntry),es[i]?=some x->x.key ≠ .string (bs n):=by
    intro i x hx hk
    obtain ⟨m,v',e1,e2,e3⟩:=hm.k i x hx
    rw [hk] at e1
    obtain rfl:=strInj e1
    rw [h2] at e2
    cases e2
   refine ⟨fun i x hx=>?_,fun i j x y hx hy hk=>?_,fun m u hu=>?_⟩
   ·rcases old i x hx with hx | ⟨_,rfl⟩
    ·obtain ⟨m,v',e1,e2,e3⟩:=hm.k i x hx
     refine ⟨m,v',e1,?_,e3⟩
     unfold setG
     rw [if_neg (fun e=>nk i x hx (by rw [e1,e])),e2]
    ·exact ⟨n,v,rfl,by unfold setG; rw [if_pos rfl],rfl⟩
   ·rcases old i x hx with hx | ⟨hi,rfl⟩ <;> rcases old j y hy with hy | ⟨hj,rfl⟩
    ·exact hm.d i j x y hx hy hk
    ·exact absurd hk (nk i x hx)
    ·exact absurd hk.symm (nk j y hy)
    ·omega
   ·unfold setG at hu
    split at hu
    ·rename_i e
     exact ⟨es.size,_,Array.getElem?_push_size,by rw [e]⟩
    ·obtain ⟨i,x,hx,hk⟩:=hm.h m u hu
     refine ⟨i,x,?_,hk⟩
     have hi:=(Array.getElem?_eq_some_iff.1 hx).1
     rw [Array.getElem?_push,if_neg (by omega),hx]
 ·have hf:=MapKept.run_findKey (P:=Tryz.prog) (w:=w) strU h1
  refine ⟨{ w with heap:=w.heap.setIfInBounds B (.map (es.modify j fun e=>{ e with key:=.string (bs n),val:=oV v }) c) },?_,⟨es.modify j fun e=>{ e with key:=.string (bs n),val:=oV v },c,(MapKept.heap_set hb).1,?_⟩,⟨rfl,rfl,rfl,by simp,fun k hk hne=>(MapKept.heap_set hb).2 k (fun e=>hne (by rw [e]))⟩,by simp⟩
  ·unfold Instr.mapUpdate
   have hst:(((es[j]?).map (·.key)).getD (.string (bs n)))=.string (bs n):=by rw [h2]; exact h3
   simp only [Sem.run_bind,run_underlying Tryz.underlying178,Result.andThen_ok,MapKept.run_getObj_map hb,ck,hf,hst,MapKept.run_keyThatStays (d:=.string) (k:=.string (bs n)) trivial]
   exact MapKept.run_setObj_map _ hb
  ·have old:∀ (i:Nat) (x:MapEntry),(es.modify j fun e=>{ e with key:=.string (bs n),val:=oV v })[i]?=some x->(i ≠ j/\es[i]?=some x)\/(i=j/\x={ e with key:=.string (bs n),val:=oV v }):=by
    intro i x hx
    rw [Array.getElem?_modify] at hx
    split at hx
    ·rename_i hi
     subst hi
     rw [h2] at hx
     injection hx with hx
     exact .inr ⟨rfl,hx.symm⟩
    ·rename_i hi
     exact .inl ⟨fun e=>hi e.symm,hx⟩
   have nk:∀ (i:Nat) (x:MapEntry),i ≠ j->es[i]?=some x->x.key ≠ .string (bs n):=fun i x hi hx hk=>hi (hm.d i j x e hx h2 (hk.trans h3.symm))
   refine ⟨fun i x hx=>?_,fun i k x y hx hy hk=>?_,fun m u hu=>?_⟩
   ·rcases old i x hx with ⟨hi,hx⟩ | ⟨_,rfl⟩
    ·obtain ⟨m,v',e1,e2,e3⟩:=hm.k i x hx
     refine ⟨m,v',e1,?_,e3⟩
     unfold setG
     rw [if_neg (fun e=>nk i x hi hx (by rw [e1,e])),e2]
    ·exact ⟨n,v,rfl,by unfold setG; rw [if_pos rfl],rfl⟩
   ·rcases old i x hx with ⟨hi,hx⟩ | ⟨hi,rfl⟩ <;> rcases old k y hy with ⟨hk2,hy⟩ | ⟨hk2,rfl⟩
    ·exact hm.d i k x y hx hy hk
    ·exact absurd hk (nk i x hi hx)
    ·exact absurd hk.symm (nk k y hk2 hy)
    ·omega
   ·have upd:∀ (i:Nat) (x:MapEntry),es[i]?=some x->∃ y:MapEntry,(es.modify j fun e=>{ e with key:=.string (bs n),val:=oV v })[i]?=some y/\y.key=x.key:=by
     intro i x hx
     rw [Array.getElem?_modify]
     split
     ·rename_i hi
      subst hi
      rw [hx]
      rw [h2] at hx
      injection hx with hx
      subst hx
      exact ⟨_,rfl,h3.symm⟩
     ·exact ⟨x,hx,rfl⟩
    unfold setG at hu
    split at hu
    ·rename_i e'
     obtain ⟨y,hy,hk⟩:=upd j e h2
     exact ⟨j,y,hy,by rw [hk,h3,e']⟩
    ·obtain ⟨i,x,hx,hk⟩:=hm.h m u hu
     obtain ⟨y,hy,hk2⟩:=upd i x hx
     exact ⟨i,y,hy,by rw [hk2,hk]⟩
theorem MapO.of_block {w w':World} {B:Nat} {g:Txt->Option OV} (h:MapO w B g) (hb:w'.heap[B]?=w.heap[B]?):MapO w' B g:=by
 obtain ⟨es,c,h1,h2⟩:=h
 exact ⟨es,c,hb.trans h1,h2⟩
theorem MapO.lt {w:World} {B:Nat} {g:Txt->Option OV} (h:MapO w B g):B < w.heap.size:=by
 obtain ⟨es,c,hb,he⟩:=h
 exact (Array.getElem?_eq_some_iff.1 hb).1
theorem MapO.new (w:World):MapO (w.alloc (.map #[] 0)) w.heap.size (fun _=>none):=⟨#[],0,heap_alloc_new w _,fun i x hx=>by simp at hx,fun i j x y hx=>by simp at hx,fun n v hv=>by cases hv⟩
end Go.Proofs.YtnmhkgmmpkjjeacGreat
