import Derived.Test.YtnmhkgmmpkjjeacGreatG50
import Derived.Recover
import Derived.Tactics2
import Derived.Test.YtnmhkgmmpkjjeacGreatRows
import Derived.Shelf.SlLaysF0
import Derived.Shelf.SlSortCmp.WholeK
namespace Go.Proofs.YtnmhkgmmpkjjeacGreat
open Go.ChangeShapes Go.WideShapes Go.ChangeAt Go.RowKit
set_option linter.unusedVariables false
set_option linter.unusedSimpArgs false
set_option maxRecDepth 100000
attribute [local go_sem ↓] Go.wp_at_zero Go.wp_at_succ
theorem catch_idle (p:Addr) (w:World):CallsD Tryz.prog 132 #[.pointer (some p)] .returning w fun e u' w'=>e=.returned (.tuple #[])/\u'=.returning/\w'=w:=by
 refine callsD_of_wpS Tryz.func132 rfl fun c₀ cs hu=>?_
 apply wpS_seq
 apply wpS_region
 simp [wpOpsS,go_sem,recoverD,hu,Tryz.ntmps132,Exit.thenS]
 refine wpS_of_wp ?_
 have e:(#[Value.pointer (some p)] ++ (Array.replicate 10 undef).setIfInBounds 3 Value.nilIface)=#[.pointer (some p),undef,undef,undef,.nilIface,undef,undef,undef,undef,undef,undef]:=rfl
 rw [e]
 clear e
 go_wp2_with fail
 cases c₀
 simp_all [bodyPostS,results,Tryz.results132]
theorem catch_pan (p:Nat) (c k:Int) (x y:Value) (older:List PanicEntry) (w:World) (h0:w.cell? ⟨p,0,none⟩=some x) (h1:w.cell? ⟨p,1,none⟩=some y) (f0:w.frozen? ⟨p,0,none⟩=false) (f1:w.frozen? ⟨p,1,none⟩=false) :
  CallsD Tryz.prog 132 #[.pointer (some ⟨p,0,none⟩)] (.panicking ({ v:=diagV c k,recovered:=false } :: older)) w fun e u' w'=>e=.returned (.tuple #[])/\u'=.panicking ({ v:=diagV c k,recovered:=true } :: older)/\w'=((w.setCell ⟨p,0,none⟩ (.int .i64 c)).setCell ⟨p,1,none⟩ (.int .i64 k)).alloc (.cells #[.int .i64 c,.int .i64 k] 46):=by
 unfold diagV
 have hta:∀ w:World,(Instr.typeAssert (.iface 46 (.agg #[.int .i64 c,.int .i64 k])) 20 46 true).run Tryz.prog w=.ok (.tuple #[.agg #[.int .i64 c,.int .i64 k],.bool true]) w:=fun w=>by kernel_rfl
 refine callsD_of_wpS Tryz.func132 rfl fun c₀ cs hu=>?_
 apply wpS_seq
 apply wpS_region
 simp [wpOpsS,go_sem,recoverD,hu,Tryz.ntmps132,Exit.thenS]
 refine wpS_of_wp ?_
 have e:(#[Value.pointer (some (⟨p,0,none⟩:Addr))] ++ (Array.replicate 10 undef).setIfInBounds 3 (Value.iface 46 (Value.agg #[Value.int IntKind.i64 c,Value.int IntKind.i64 k])))=#[.pointer (some ⟨p,0,none⟩),undef,undef,undef,.iface 46 (Value.agg #[Value.int IntKind.i64 c,Value.int IntKind.i64 k]),undef,undef,undef,undef,undef,undef]:=rfl
 rw [e]
 clear e
 have hp:p < w.heap.size:=cell_some_lt h0
 go_wp2_with fail
 simp [bodyPostS,results,Tryz.results132]
theorem pb_below {w w1:World} {b mb:Nat} (h:PB w b mb) (hb:Below w.heap.size w w1):PB w1 b mb:=by
 have c:∀ i,w1.cell? ⟨b,i,none⟩=w.cell? ⟨b,i,none⟩:=fun i=>hb.cell (p:=⟨b,i,none⟩) h.bl
 exact ⟨(c 0).trans h.c0,(c 1).trans h.c1,(c 2).trans h.c2,(c 3).trans h.c3,(c 4).trans h.c4,(c 5).trans h.c5,fun i=>(hb.frozen (p:=⟨b,i,none⟩) h.bl).trans (h.fz i),h.mp.of_block (hb.block mb h.ml),Nat.lt_of_lt_of_le h.bl hb.size,Nat.lt_of_lt_of_le h.ml hb.size,h.bm⟩
def FfPost (w:World) (b mb:Nat) (r:List SpanE × Int × Int) (e:Ending) (w':World):Prop:=e=.returned (.agg #[.int .i64 r.2.1,.int .i64 r.2.2])/\Touch (fun k=>k=b\/k=mb) w w'/\(r.2.1=0->∃ all at_ B v,Good all/\r=(spansTo all 4096,0,0)/\w.heap.size<=B/\PI w' b mb B at_ v (paOf all)/\all.length<=1000)
theorem tTail {S:Nat->Prop} {w w1 w2 w3:World} (hb:Below w.heap.size w w1) (h:Touch S w1 w2) (h2:Touch (fun k=>w.heap.size<=k) w2 w3):Touch S w w3 :=
 ⟨h2.os.trans (h.os.trans hb.os),h2.tape.trans (h.tape.trans hb.tape),h2.output.trans (h.output.trans hb.output),Nat.le_trans hb.size (Nat.le_trans h.size h2.size),fun k hk hn=>(h2.block k (Nat.lt_of_lt_of_le hk (Nat.le_trans hb.size h.size)) (by show ¬ w.heap.size<=k; omega)).trans ((h.block k (Nat.lt_of_lt_of_le hk hb.size) hn).trans (hb.block k hk))⟩
set_option maxHeartbeats 1000000 in
theorem firstFault_any (l:Txt) (b mb:Nat) (w:World) (hl:l.length<=9223372036854775807) (h:PB w b mb):Calls Tryz.prog 119 #[.pointer (some ⟨b,0,none⟩),.string (bs l)] w (FfPost w b mb (polL l)):=by
 have hmf:∀ (fn:Fn) (first cap:Array Value) (w:World),(Instr.makeFunc fn first cap).run Tryz.prog w=.ok (.func fn first cap) w:=fun _ _ _ _=>rfl
 obtain ⟨w1,hw1⟩:∃ w1,w1=w.alloc (.cells #[.int .i64 0,.int .i64 0] 46):=⟨_,rfl⟩
 have hb1:Below w.heap.size w w1:=by rw [hw1]; exact bal
 have HZ1:Hid (w.heap.size < w1.heap.size):=hidP (by rw [hw1]; simp)
 have HQ1:Hid (w1.cell? ⟨w.heap.size,0,none⟩=some (.int .i64 0)/\w1.cell? ⟨w.heap.size,1,none⟩=some (.int .i64 0)/\w1.frozen? ⟨w.heap.size,0,none⟩=false/\w1.frozen? ⟨w.heap.size,1,none⟩=false):=hidP (by rw [hw1]; refine ⟨?_,?_,?_,?_⟩ <;> simp [go_sem])
 have HW1:Hid (w1=_):=hw1
 have hbl:=h.bl
 have hml:=h.ml
 have t1:=hidP (read_any l b mb w1 hl (pb_below h hb1))
 have HB1:Hid (Below w.heap.size w w1):=hb1
 generalize polL l=r at *
 clear h hb1 hw1
 go_enter_defers Tryz.func119,Tryz.ntmps119
 go_wp2_with fail
 rw [<- HW1.out]
 refine t1.out.mono ?_
 rintro e w2 ⟨ht,hno,hyes⟩
 have e2:w2.heap[w.heap.size]?=w1.heap[w.heap.size]?:=ht.block _ HZ1.out (by show ¬ (_\/_); omega)
 have q0:=(World.cell?_of_block (a:=⟨w.heap.size,0,none⟩) e2).trans HQ1.out.1
 have q1:=(World.cell?_of_block (a:=⟨w.heap.size,1,none⟩) e2).trans HQ1.out.2.1
 have f0:=(World.frozen?_of_block (a:=⟨w.heap.size,0,none⟩) e2).trans HQ1.out.2.2.1
 have f1:=(World.frozen?_of_block (a:=⟨w.heap.size,1,none⟩) e2).trans HQ1.out.2.2.2
 have hz2:w.heap.size < w2.heap.size:=Nat.lt_of_lt_of_le HZ1.out ht.size
 have HT2:=hidP ht
 clear e2 ht t1
 by_cases hc:r.2.1=0
 ·obtain ⟨rfl,all,at_,B,v,hgd,hr,hB,hp,hal⟩:=hyes hc
  have HP2:=hidP hp
  have HGD:=hidP hgd
  have HR:=hidP hr
  have HBS:=hidP hB
  clear hp hgd hr hno hyes hB hc
  go_wp2_with fail
  obtain ⟨w3,hw3⟩:∃ w3,w3=(w2.setCell ⟨w.heap.size,0,none⟩ (.int .i64 0)).setCell ⟨w.heap.size,1,none⟩ (.int .i64 0):=⟨_,rfl⟩
  have c0:w3.cell? ⟨w.heap.size,0,none⟩=some (.int .i64 0):=by rw [hw3]; exact (pcell (by omega)).trans (World.cell?_setCell_same _ _ _ q0)
  have c1:w3.cell? ⟨w.heap.size,1,none⟩=some (.int .i64 0):=by rw [hw3]; exact World.cell?_setCell_same _ _ _ ((pcell (by omega)).trans q1)
  have t3:Touch (fun k=>k=w.heap.size) w2 w3:=by rw [hw3]; exact (pset (a:=⟨w.heap.size,0,none⟩)).trans (pset (a:=⟨w.heap.size,1,none⟩))
  have HT3:=hidP t3
  rw [<- hw3]
  clear hw3 t3 q0 q1 f0 f1
  refine leaves_cons (f:=132) (args:=#[.pointer (some ⟨w.heap.size,0,none⟩)]) (by simp) (by simp [go_sem]) ?_
  refine (catch_idle ⟨w.heap.size,0,none⟩ w3).mono ?_
  rintro e u' w'' ⟨rfl,rfl,ew⟩
  obtain rfl:w3=w'':=ew.symm
  simp [Leaves,settle,results,Tryz.results119,go_sem,c0,c1]
  have hB1:w.heap.size < B:=Nat.lt_of_lt_of_le HZ1.out HBS.out
  have hp3:PI w3 b mb B at_ v (paOf all):=HP2.out.touch HT3.out (by show ¬ b=_; omega) (by show ¬ mb=_; omega) (fun k hk=>by have:=(HP2.out.of.1 k hk).1; show ¬ k=_; omega) (fun k hk=>by have:=(HP2.out.of.2.1 k hk).1; show ¬ k=_; omega) (fun k hk=>by have:=(HP2.out.of.2.2 k hk).1; show ¬ k=_; omega)
  rw [HR.out]
  exact ⟨rfl,tTail HB1.out HT2.out (HT3.out.up (fun k hk=>by show w.heap.size<=k; omega)),fun _=>⟨all,at_,B,v,HGD.out,rfl,by omega,hp3,hal⟩⟩
 ·obtain rfl:=hno hc
  have HC:=hidP hc
  clear hno hyes hc
  obtain ⟨w3,hw3⟩:∃ w3,w3=((w2.setCell ⟨w.heap.size,0,none⟩ (.int .i64 r.2.1)).setCell ⟨w.heap.size,1,none⟩ (.int .i64 r.2.2)).alloc (.cells #[.int .i64 r.2.1,.int .i64 r.2.2] 46):=⟨_,rfl⟩
  have t3:Touch (fun k=>w.heap.size<=k) w2 w3:=by
   rw [hw3]
   refine (((pset (a:=⟨w.heap.size,0,none⟩)).trans (pset (a:=⟨w.heap.size,1,none⟩))).up (fun k (hk:k=w.heap.size)=>by show w.heap.size<=k; omega)).trans (Touch.of_below bal)
  have c0:w3.cell? ⟨w.heap.size,0,none⟩=some (.int .i64 r.2.1):=by rw [hw3]; exact (bal.cell (p:=⟨w.heap.size,0,none⟩) (by simp; omega)).trans ((pcell (by omega)).trans (World.cell?_setCell_same _ _ _ q0))
  have c1:w3.cell? ⟨w.heap.size,1,none⟩=some (.int .i64 r.2.2):=by rw [hw3]; exact (bal.cell (p:=⟨w.heap.size,1,none⟩) (by simp; omega)).trans (World.cell?_setCell_same _ _ _ ((pcell (by omega)).trans q1))
  have HT3:=hidP t3
  have tc:=catch_pan w.heap.size r.2.1 r.2.2 _ _ [] w2 q0 q1 f0 f1
  rw [<- hw3] at tc
  clear hw3 t3 q0 q1 f0 f1
  show bodyPostD _ _ _ _ _ _
  refine leaves_cons (f:=132) (args:=#[.pointer (some ⟨w.heap.size,0,none⟩)]) (by simp) (by simp [go_sem]) ?_
  refine tc.mono ?_
  rintro e u' w'' ⟨rfl,rfl,ew⟩
  obtain rfl:w3=w'':=ew.symm
  simp [Leaves,settle,results,Tryz.results119,go_sem,c0,c1]
  exact ⟨rfl,tTail HB1.out HT2.out HT3.out,fun h0=>absurd h0 HC.out⟩
end Go.Proofs.YtnmhkgmmpkjjeacGreat
namespace Go.Proofs.YtnmhkgmmpkjjeacGreat
open Go.Shelf
set_option linter.unusedVariables false
set_option maxRecDepth 100000
def laysS_ren:Go.Shelf.Ren:=⟨fun | 6=>134 | 14=>146 | 15=>147 | 20=>155 | 21=>156 | 22=>157 | 23=>158 | 24=>159 | 25=>160 | 26=>161 | 27=>162 | 28=>163 | 29=>164 | 46=>175 | 47=>176 | 48=>177 | 49=>178 | 50=>179 | 57=>182 | n=>n,fun | 0=>0 | 3=>3 | 4=>4 | 5=>5 | 9=>9 | 22=>33 | 24=>81 | 25=>196 | 39=>149 | 45=>210 | 46=>211 | 50=>157 | 53=>217 | 55=>70 | 66=>223 | 70=>227 | 76=>230 | 77=>231 | n=>n,fun | n=>n⟩
theorem laysS:Go.Proofs.SlLaysF0.n6 Tryz.prog laysS_ren:={
 mixed:=by kernel_rfl
 f6:=⟨Tryz.f134.name,by decide,Tryz.func134.trans (congrArg some (by kernel_rfl))⟩
 f14:=⟨Tryz.f146.name,by decide,Tryz.func146.trans (congrArg some (by kernel_rfl))⟩
 f15:=Tryz.func147.trans (congrArg some (by kernel_rfl))
 f20:=⟨Tryz.f155.name,by decide,Tryz.func155.trans (congrArg some (by kernel_rfl))⟩
 f21:=⟨Tryz.f156.name,by decide,Tryz.func156.trans (congrArg some (by kernel_rfl))⟩
 f22:=⟨Tryz.f157.name,by decide,Tryz.func157.trans (congrArg some (by kernel_rfl))⟩
 f23:=⟨Tryz.f158.name,by decide,Tryz.func158.trans (congrArg some (by kernel_rfl))⟩
 f24:=⟨Tryz.f159.name,by decide,Tryz.func159.trans (congrArg some (by kernel_rfl))⟩
 f25:=⟨Tryz.f160.name,by decide,Tryz.func160.trans (congrArg some (by kernel_rfl))⟩
 f26:=⟨Tryz.f161.name,by decide,Tryz.func161.trans (congrArg some (by kernel_rfl))⟩
 f27:=⟨Tryz.f162.name,by decide,Tryz.func162.trans (congrArg some (by kernel_rfl))⟩
 f28:=Tryz.func163.trans (congrArg some (by kernel_rfl))
 f29:=Tryz.func164.trans (congrArg some (by kernel_rfl))
 f46:=⟨Tryz.f175.name,by decide,Tryz.func175.trans (congrArg some (by kernel_rfl))⟩
 f47:=Tryz.func176.trans (congrArg some (by kernel_rfl))
 f48:=Tryz.func177.trans (congrArg some (by kernel_rfl))
 f49:=⟨Tryz.f178.name,by decide,Tryz.func178.trans (congrArg some (by kernel_rfl))⟩
 f50:=⟨Tryz.f179.name,by decide,Tryz.func179.trans (congrArg some (by kernel_rfl))⟩
 f57:=⟨Tryz.f182.name,by decide,Tryz.func182.trans (congrArg some (by kernel_rfl))⟩
 t0:=Tryz.underlying0
 a0:=Tryz.isAgg0
 z0:=Tryz.sizeOf0
 v0:=Tryz.zeroValue0
 t3:=Tryz.underlying3
 a3:=Tryz.isAgg3
 z3:=Tryz.sizeOf3
 v3:=Tryz.zeroValue3
 t4:=Tryz.underlying4
 a4:=Tryz.isAgg4
 z4:=Tryz.sizeOf4
 v4:=Tryz.zeroValue4
 t5:=Tryz.underlying5
 a5:=Tryz.isAgg5
 z5:=Tryz.sizeOf5
 v5:=Tryz.zeroValue5
 t9:=Tryz.underlying9
 a9:=Tryz.isAgg9
 z9:=Tryz.sizeOf9
 v9:=Tryz.zeroValue9
 t22:=Tryz.underlying33
 a22:=Tryz.isAgg33
 z22:=Tryz.sizeOf33
 v22:=Tryz.zeroValue33
 t25:=Tryz.underlying196
 a25:=Tryz.isAgg196
 z25:=Tryz.sizeOf196
 v25:=Tryz.zeroValue196
 t39:=Tryz.underlying149
 a39:=Tryz.isAgg149
 z39:=Tryz.sizeOf149
 v39:=Tryz.zeroValue149
 t45:=Tryz.underlying210
 a45:=Tryz.isAgg210
 z45:=Tryz.sizeOf210
 v45:=Tryz.zeroValue210
 t46:=Tryz.underlying211
 a46:=Tryz.isAgg211
 z46:=Tryz.sizeOf211
 v46:=Tryz.zeroValue211
 t50:=Tryz.underlying157
 a50:=Tryz.isAgg157
 z50:=Tryz.sizeOf157
 v50:=Tryz.zeroValue157
 t53:=Tryz.underlying217
 a53:=Tryz.isAgg217
 z53:=Tryz.sizeOf217
 v53:=Tryz.zeroValue217
 t55:=Tryz.underlying70
 a55:=Tryz.isAgg70
 z55:=Tryz.sizeOf70
 v55:=Tryz.zeroValue70
 t66:=Tryz.underlying223
 a66:=Tryz.isAgg223
 z66:=Tryz.sizeOf223
 v66:=Tryz.zeroValue223
 t70:=Tryz.underlying227
 a70:=Tryz.isAgg227
 z70:=Tryz.sizeOf227
 v70:=Tryz.zeroValue227
 t76:=Tryz.underlying230
 a76:=Tryz.isAgg230
 z76:=Tryz.sizeOf230
 v76:=Tryz.zeroValue230
 t77:=Tryz.underlying231
 a77:=Tryz.isAgg231
 z77:=Tryz.sizeOf231
 v77:=Tryz.zeroValue231 }
end Go.Proofs.YtnmhkgmmpkjjeacGreat
namespace Go.Proofs.YtnmhkgmmpkjjeacGreat
open Go.ChangeShapes Go.WideShapes Go.ChangeAt Go.RowKit
set_option linter.unusedVariables false
set_option linter.unusedSimpArgs false
set_option maxRecDepth 100000
attribute [local go_sem ↓] Go.wp_at_zero Go.wp_at_succ
def cmpI (x y:Int):Int:=if x < y then -1 else if y < x then 1 else 0
theorem isNaNR_any (x:Int) (w:World):Calls Tryz.prog 141 #[.int .i64 x] w fun e w'=>e=.returned (.bool false)/\w'=w:=by
 have h:(x != x)=false:=by simp
 go_enter Tryz.func141,Tryz.ntmps141
 go_wp2_with fail
 go_ret
 exact ⟨rfl,rfl⟩
theorem cmp_any (x y:Int) (w:World):Calls Tryz.prog 136 #[.int .i64 x,.int .i64 y] w fun e w'=>e=.returned (.int .i64 (cmpI x y))/\w'=w:=by
 have t1:=hidP (isNaNR_any x w)
 have t2:=hidP (isNaNR_any y w)
 by_cases h1:x < y
 ·have HR:Hid (cmpI x y=-1):=hidP (by unfold cmpI; rw [if_pos h1])
  go_enter Tryz.func136,Tryz.ntmps136
  go_wp2_with fail
  refine t1.out.mono ?_
  rintro e w1 ⟨rfl,ew⟩
  obtain rfl:w=w1:=ew.symm
  go_wp2_with fail
  refine t2.out.mono ?_
  rintro e w1 ⟨rfl,ew⟩
  obtain rfl:w=w1:=ew.symm
  go_wp2_with fail
  go_ret
  exact ⟨by rw [HR.out]; rfl,rfl⟩
 ·by_cases h2:y < x
  ·have HR:Hid (cmpI x y=1):=hidP (by unfold cmpI; rw [if_neg h1,if_pos h2])
   go_enter Tryz.func136,Tryz.ntmps136
   go_wp2_with fail
   refine t1.out.mono ?_
   rintro e w1 ⟨rfl,ew⟩
   obtain rfl:w=w1:=ew.symm
   go_wp2_with fail
   refine t2.out.mono ?_
   rintro e w1 ⟨rfl,ew⟩
   obtain rfl:w=w1:=ew.symm
   go_wp2_with fail
   go_ret
   exact ⟨by rw [HR.out]; rfl,rfl⟩
  ·have HR:Hid (cmpI x y=0):=hidP (by unfold cmpI; rw [if_neg h1,if_neg h2])
   go_enter Tryz.func136,Tryz.ntmps136
   go_wp2_with fail
   refine t1.out.mono ?_
   rintro e w1 ⟨rfl,ew⟩
   obtain rfl:w=w1:=ew.symm
   go_wp2_with fail
   refine t2.out.mono ?_
   rintro e w1 ⟨rfl,ew⟩
   obtain rfl:w=w1:=ew.symm
   go_wp2_with fail
   go_ret
   exact ⟨by rw [HR.out]; rfl,rfl⟩
open Go.Shelf Go.Lib Go.Sort in
theorem byPage_any (x y:SpanE) (W:World):Calls Tryz.prog 135 #[.agg (eSpan.enc x).toArray,.agg (eSpan.enc y).toArray] W fun e w'=>e=.returned (.int .i64 (cmpI x.page y.page))/\∃ q os',w'=grow (W.drewN q) os':=by
 have t1:=hidP (fun w=>cmp_any x.page y.page w)
 obtain ⟨a0,a1,a2,a3,a4⟩:=x
 obtain ⟨b0,b1,b2,b3,b4⟩:=y
 dsimp only [eSpan] at t1 ⊢
 generalize cmpI a0 b0=r at *
 go_enter Tryz.func135,Tryz.ntmps135
 go_wp2_with fail
 refine (t1.out _).mono ?_
 rintro e w1 ⟨rfl,rfl⟩
 go_wp2_with fail
 go_ret
 exact ⟨rfl,0,_,by rw [alloc_eq_grow,alloc_eq_grow,grow_grow]; rfl⟩
theorem lt_page (x y:SpanE):ltOf (fun x y:SpanE=>cmpI x.page y.page) x y=decide (x.page < y.page):=by
 unfold ltOf cmpI
 by_cases h1:x.page < y.page
 ·simp [h1]
 ·by_cases h2:y.page < x.page <;> simp [h1,h2]
open Go.Shelf Go.Lib Go.Sort in
theorem swo_page:SWO (ltOf fun x y:SpanE=>cmpI x.page y.page) where
 irrefl x:=by rw [lt_page]; simp
 trans x y z h1 h2:=by rw [lt_page] at *; simp at *; omega
 ntrans x y z h1 h2:=by rw [lt_page] at *; simp at *; omega
theorem at_bang [Inhabited SpanE] (rs:List SpanE) (i:Nat) (h:i < rs.length):(rs.toArray[i]!)=eAt eSpan rs i:=by
 unfold eAt
 rw [List.getD_eq_getElem?_getD,List.getElem?_eq_getElem h]
 simp [h]
open Go.Shelf Go.Lib Go.Sort in
theorem holds_row [Inhabited SpanE] {w:World} {B g cap:Nat} {rs:List SpanE} (h:ERow eSpan w B (.slice (some ⟨g,0,none⟩) rs.length cap) rs):HoldsK eSpan.enc 5 w g 0 rs.toArray:=by
 rcases h.2 with ⟨e,_⟩ | ⟨g',cap',cur,e,hb,hg,hn,hm,hs,ht⟩
 ·cases e
 ·simp only [Value.slice.injEq,Option.some.injEq,Addr.mk.injEq,and_true,true_and] at e
  obtain ⟨rfl,rfl⟩:=e
  have hr:w.rowIs g 81 cur.size (fun i=>cur.getD i (.bool false)):=⟨cur,hg,rfl,fun i hi=>by simp [hi]⟩
  intro j hj
  have hj':j < rs.length * 5:=by simpa using hj
  have hs':cur.size=cap * 5:=hs
  have hjc:j < cur.size:=by rw [hs']; exact Nat.lt_of_lt_of_le hj' (Nat.mul_le_mul_right 5 hn)
  have hd:j / 5 < rs.length:=by omega
  rw [Nat.zero_add]
  refine ⟨?_,hr.frozen j⟩
  rw [hr.cell hjc,get_flatK _ _ _ j (by simpa using hj'),at_bang rs _ hd]
  have hu:=ecells_at eSpan rs (j / 5) hd (j % 5) (by show j % 5 < 5; omega)
  have e5:j / 5 * eSpan.sz+j % 5=j:=by show j / 5 * 5+j % 5=j; omega
  rw [e5,<- ht,List.getElem?_take,if_pos (by show j < rs.length * 5; exact hj')] at hu
  simp only [Array.getElem?_toList] at hu
  have hl:j % 5 < (eSpan.enc (eAt eSpan rs (j / 5))).length:=by rw [eSpan.len]; show j % 5 < 5; omega
  rw [List.getElem?_eq_getElem hl] at hu
  show some (cur.getD j (.bool false))=some (id ((eSpan.enc (eAt eSpan rs (j / 5)))[j % 5]!))
  rw [getElem!_pos (eSpan.enc (eAt eSpan rs (j / 5))) (j % 5) hl]
  simp [Array.getD_eq_getD_getElem?,hu]
open Go.Shelf Go.Lib Go.Sort in
theorem sorted_row [Inhabited SpanE] {w:World} {B g cap n:Nat} {rs:List SpanE} {d':Array SpanE} {os:Array Obj} (h:ERow eSpan w B (.slice (some ⟨g,0,none⟩) rs.length cap) rs) (hz:d'.size=rs.length) :
  ERow eSpan (sortWorldK eSpan.enc 5 w g 0 n d' os) B (.slice (some ⟨g,0,none⟩) rs.length cap) d'.toList/\Touch (fun k=>oP (some ⟨g,0,none⟩)=some k) w (sortWorldK eSpan.enc 5 w g 0 n d' os):=by
 rcases h.2 with ⟨e,_⟩ | ⟨g',cap',cur,e,hb,hg,hn,hm,hs,ht⟩
 ·cases e
 ·simp only [Value.slice.injEq,Option.some.injEq,Addr.mk.injEq,and_true,true_and] at e
  obtain ⟨rfl,rfl⟩:=e
  have hlt:g < w.heap.size:=(Array.getElem?_eq_some_iff.1 hg).1
  have hsz:(w.heap.modify g (onCells (putCells id 0 (flatK eSpan.enc 5 d')))).size=w.heap.size:=by simp
  have hblk:(sortWorldK eSpan.enc 5 w g 0 n d' os).heap[g]?=some (.cells (putCells id 0 (flatK eSpan.enc 5 d') cur) 81):=by
   show (w.heap.modify g (onCells (putCells id 0 (flatK eSpan.enc 5 d'))) ++ os)[g]?=_
   rw [Array.getElem?_append,if_pos (by rw [hsz]; exact hlt),Array.getElem?_modify,if_pos rfl,hg]
   rfl
  have hs':cur.size=cap * 5:=hs
  have hpz:(putCells id 0 (flatK eSpan.enc 5 d') cur).size=cap * 5:=by unfold putCells; rw [Array.size_mapIdx]; exact hs'
  refine ⟨?_,rfl,rfl,rfl,?_,fun k hk hne=>?_⟩
  ·refine ERow.of_row (cap:=cap) (N:=cap * 5) (f:=fun i=>(putCells id 0 (flatK eSpan.enc 5 d') cur).getD i (.bool false)) (by simp [hz]) hb ⟨_,hblk,hpz,fun i hi=>by rw [<- hpz] at hi; simp [hi]⟩ rfl hn hm ?_
   intro i hi j hj
   have hj5:j < 5:=hj
   have hd:i < d'.size:=by omega
   have hk:i * 5+j < d'.size * 5:=by omega
   have hkc:i * 5+j < cur.size:=by rw [hs']; have:=Nat.mul_le_mul_right 5 hn; omega
   show (putCells id 0 (flatK eSpan.enc 5 d') cur).getD (i * 5+j) (.bool false)=_
   have hp:(putCells id 0 (flatK eSpan.enc 5 d') cur)[i * 5+j]?=some ((eSpan.enc d'[i]!)[j]!):=by
    unfold putCells
    rw [Array.getElem?_mapIdx,Array.getElem?_eq_getElem hkc]
    simp only [Option.map_some]
    rw [if_pos ⟨Nat.zero_le _,by simpa using hk⟩]
    show some (id (flatK eSpan.enc 5 d')[i * 5+j - 0]!)=_
    rw [Nat.sub_zero,get_flatK _ _ _ _ hk,show (i * 5+j) / 5=i by omega,show (i * 5+j) % 5=j by omega]
    rfl
   rw [Array.getD_eq_getD_getElem?,hp]
   unfold eCell
   have hl:j < (eSpan.enc (eAt eSpan d'.toList i)).length:=by rw [eSpan.len]; exact hj
   rw [List.getElem?_eq_getElem hl]
   have e1:(d'[i]!)=eAt eSpan d'.toList i:=by
    have:=at_bang d'.toList i (by simpa using hd)
    simpa using this
   rw [e1,getElem!_pos (eSpan.enc (eAt eSpan d'.toList i)) j hl]
  ·show w.heap.size<=(w.heap.modify g (onCells (putCells id 0 (flatK eSpan.enc 5 d'))) ++ os).size
   simp
  ·show (w.heap.modify g (onCells (putCells id 0 (flatK eSpan.enc 5 d'))) ++ os)[k]?=_
   rw [Array.getElem?_append,if_pos (by rw [hsz]; exact hk),Array.getElem?_modify,if_neg (fun e=>hne (by rw [e]; rfl))]
theorem insNone_any (a:Option Addr) (cap:Nat) (fv:Value) (w:World):Calls Tryz.prog 155 #[.slice a 0 cap,.int .i64 0,.int .i64 0,fv] w fun e w'=>e=.returned (.tuple #[])/\w'=w:=by
 go_enter Tryz.func155,Tryz.ntmps155
 go_wp2_with fail
 go_loopw [8] (fun iv wr=>iv=.int .i64 1/\wr=w) (fun _ _=>0)
 case atStart=>exact ⟨rfl,rfl⟩
 case round =>
  obtain ⟨rfl,rfl⟩:=hrel
  go_wp2_with fail
  refine bodyPost_end (v:=.tuple #[]) (by simp [results,Tryz.results155,go_sem]) rfl ⟨rfl,rfl⟩
theorem pdqNone_any (a:Option Addr) (cap:Nat) (lim:Int) (fv:Value) (w:World):Calls Tryz.prog 146 #[.slice a 0 cap,.int .i64 0,.int .i64 0,.int .i64 lim,fv] w fun e w'=>e=.returned (.tuple #[])/\w'=w:=by
 have t1:=hidP (insNone_any a cap fv w)
 refine calls_o 148 Tryz.func146 rfl (by rfl) (by simp) ?_
 intro tm hsz hla
 have s0:=hla 0 (by simp)
 have s1:=hla 1 (by simp)
 have s2:=hla 2 (by simp)
 have s3:=hla 3 (by simp)
 have s4:=hla 4 (by simp)
 clear hla
 simp only [List.getElem_toArray,List.getElem_cons_zero,List.getElem_cons_succ] at s0 s1 s2 s3 s4
 go_wp2_with fail
 refine wp_loop_o 148 (fun j tm wr=>Fs tm [(0,.slice a 0 cap),(1,.int .i64 0),(2,.int .i64 0),(3,.int .i64 lim),(4,fv)]/\wr=w) 0 (by simp [hsz]) ⟨by simp only [Fs]; and_intros <;> simp [hsz,s0,s1,s2,s3,s4],rfl⟩ ?_
 clear s0 s1 s2 s3 s4 hsz
 clear tm
 intro j tm wr J K hsz hI hJ hK
 obtain ⟨hs,hw⟩:=hI
 obtain rfl:w=wr:=hw.symm
 simp only [Fs] at hs
 obtain ⟨s0,s1,s2,s3,s4,-⟩:=hs
 go_upto_if 25 with fail
 refine wp_cond_true (by go_simp) ?_
 go_wp2_with fail
 refine t1.out.mono ?_
 rintro e w1 ⟨rfl,ew⟩
 obtain rfl:w=w1:=ew.symm
 go_wp2_with fail
 first
  | exact bodyPost_ret (v:=.tuple #[]) (by simp [results,Tryz.results146,go_sem,hsz]) rfl ⟨rfl,rfl⟩
  | exact bodyPost_end (v:=.tuple #[]) (by simp [results,Tryz.results146,go_sem,hsz]) rfl ⟨rfl,rfl⟩
theorem len0_any (w:World):Calls Tryz.prog 147 #[.int .u64 0] w fun e w'=>∃ lim:Int,e=.returned (.int .i64 lim)/\w'=w:=by
 go_enter Tryz.func147,Tryz.ntmps147
 go_wp2
 go_ret
 exact ⟨_,rfl,rfl⟩
theorem sortNone_any (a:Option Addr) (cap:Nat) (w:World):Calls Tryz.prog 134 #[.slice a 0 cap,.func (.func 135) #[] #[]] w fun e w'=>e=.returned (.tuple #[])/\w'=w:=by
 have t1:=hidP (fun lim=>pdqNone_any a cap lim (.func (.func 135) #[] #[]) w)
 go_enter Tryz.func134,Tryz.ntmps134
 go_wp2_with fail
 refine (len0_any w).mono ?_
 rintro e w1 ⟨lim,rfl,ew⟩
 obtain rfl:w=w1:=ew.symm
 go_wp2_with fail
 refine (t1.out lim).mono ?_
 rintro e w1 ⟨rfl,ew⟩
 obtain rfl:w=w1:=ew.symm
 go_wp2_with fail
 refine bodyPost_end (v:=.tuple #[]) (by simp [results,Tryz.results134,go_sem]) rfl ⟨rfl,rfl⟩
open Go.Shelf Go.Lib Go.Sort in
theorem sortSpans_any (a:Option Addr) (cap B:Nat) (rs:List SpanE) (w:World) (h:ERow eSpan w B (.slice a rs.length cap) rs) (hl:rs.length<=1000) :
  Calls Tryz.prog 134 #[.slice a rs.length cap,.func (.func 135) #[] #[]] w fun e w'=>e=.returned (.tuple #[])/\∃ rs':List SpanE,rs'.length=rs.length/\rs'.Perm rs/\rs'.Pairwise (fun x y=>x.page<=y.page)/\ERow eSpan w' B (.slice a rs.length cap) rs'/\Touch (fun k=>oP a=some k) w w':=by
 have hin:Inhabited SpanE:=⟨⟨0,0,0,0,false⟩⟩
 by_cases h0:rs.length=0
 ·obtain rfl:=List.length_eq_zero_iff.1 h0
  refine (sortNone_any a cap w).mono ?_
  rintro e w1 ⟨rfl,rfl⟩
  exact ⟨rfl,[],rfl,List.Perm.refl _,List.Pairwise.nil,h,Touch.of_below (Below.refl _ _)⟩
 ·obtain ⟨a',c',e,hf⟩:=h.form
  simp only [Value.slice.injEq] at e
  obtain ⟨g,N,f,hag,_,hr,_⟩:=hf (by omega)
  obtain rfl:a=some ⟨g,0,none⟩:=e.1.trans hag
  have hH:=holds_row h
  have hsz:rs.toArray.size=rs.length:=by simp
  have eg:∀ args w,(callFunc 135 args).run Tryz.prog w=.ok (.enter 135 args) w:=enters_of Tryz.func135 (by kernel_rfl) rfl
  have hcon:=AnyQ.slices_SortFunc laysS 5 Tryz.isAgg81 Tryz.sizeOf81 eSpan.enc (fun x=>rfl) (fun x v hv=>by simp [eSpan] at hv; rcases hv with rfl | rfl | rfl | rfl | rfl <;> rfl) (fun x y=>cmpI x.page y.page) swo_page 135 #[] g 0 cap rs.toArray w eg (fun _ _ _ _ x y=>byPage_any x y _) hH hr.lt (by rw [hsz]; omega)
  rw [hsz] at hcon
  change Calls Tryz.prog 134 _ _ _ at hcon
  refine hcon.mono ?_
  rintro e w1 ⟨rfl,d',n,os,hp,hso,rfl⟩
  have hdz:d'.size=rs.length:=by rw [hp.1,hsz]
  obtain ⟨r1,r2⟩:=sorted_row (n:=n) (os:=os) h hdz
  refine ⟨rfl,d'.toList,by simpa using hdz,?_,?_,r1,r2⟩
  ·have:=hp.2.2
   rw [<- hdz,Array.extract_size,hdz,<- hsz,Array.extract_size] at this
   simpa using this
  ·rw [List.pairwise_iff_getElem]
   intro i j hi hj hij
   have:=hso i j (Nat.zero_le _) hij (by simpa [hdz] using hj)
   rw [lt_page] at this
   have hi':i < d'.size:=by simpa using hi
   have hj':j < d'.size:=by simpa using hj
   rw [getElem!_pos d' i hi',getElem!_pos d' j hj'] at this
   simp at this
   simpa using this
end Go.Proofs.YtnmhkgmmpkjjeacGreat
