import Derived.Test.YtiiejckfcnmhoabGreatQ51
import Derived.Test.YtiiejckfcnmhoabGreatQ52
import Derived.Test.YtiiejckfcnmhoabGreatQ36
import Derived.Test.YtiiejckfcnmhoabGreatQ53
namespace Go.Proofs.YtiiejckfcnmhoabGreat
open Go.ChangeShapes Go.WideShapes Go.ChangeAt Go.RowKit
set_option linter.unusedVariables false
attribute [local go_sem ↓] Go.wp_at_zero Go.wp_at_succ
theorem refW_any (gu:Nat) (A B W c:Int) (w:World) (hg:gu < w.heap.size)
  (hc:∀ wX,Below w.heap.size w wX->Calls Tryz.prog 143 #[.pointer (some ⟨gu,0,none⟩),.int .i64 A,.int .u64 W] wX fun e w'=>e=.returned (.int .i64 c)/\Below wX.heap.size wX w') :
  Calls Tryz.prog 118 #[.pointer (some ⟨gu,0,none⟩),.iface 200 (.agg #[.int .i64 1,.int .i64 A,.int .i64 B,.int .u64 W])] w fun e w'=>e=.returned (.int .i64 c)/\Below w.heap.size w w':=by
 obtain ⟨wb,hwb⟩:∃ wb,wb=w.alloc (.cells #[.int .i64 1,.int .i64 A,.int .i64 B,.int .u64 W] 200):=⟨_,rfl⟩
 have hbb:Below w.heap.size w wb:=by rw [hwb]; exact bal
 have h1:=hc wb hbb
 rw [hwb] at h1
 have HWB:Hid (wb=_):=hwb
 have HBB:Hid (Below w.heap.size w wb):=hbb
 clear hwb hbb hc
 have aswriteEdit:∀ w:World,(Instr.typeAssert (.iface 200 (.agg #[.int .i64 1,.int .i64 A,.int .i64 B,.int .u64 W])) 176 200 true).run Tryz.prog w=.ok (.tuple #[.agg #[.int .i64 1,.int .i64 A,.int .i64 B,.int .u64 W],.bool true]) w:=fun _=>by kernel_rfl
 have asfreeEdit:∀ w:World,(Instr.typeAssert (.iface 200 (.agg #[.int .i64 1,.int .i64 A,.int .i64 B,.int .u64 W])) 176 203 true).run Tryz.prog w=.ok (.tuple #[.agg #[.int .i64 0,.int .i64 0,.int .i64 0,.int .u64 0],.bool false]) w:=fun _=>by kernel_rfl
 go_enter Tryz.func118,Tryz.ntmps118
 go_wp2_with fail
 refine h1.mono ?_
 rintro e w1 ⟨rfl,hb1⟩
 rw [<- HWB.out] at hb1
 go_wp2_with fail
 go_ret
 exact ⟨rfl,HBB.out.trans (hb1.mono HBB.out.size)⟩
theorem refF_any (gu:Nat) (A B W c:Int) (w:World) (hg:gu < w.heap.size)
  (hc:∀ wX,Below w.heap.size w wX->Calls Tryz.prog 144 #[.pointer (some ⟨gu,0,none⟩),.int .i64 A] wX fun e w'=>e=.returned (.int .i64 c)/\Below wX.heap.size wX w') :
  Calls Tryz.prog 118 #[.pointer (some ⟨gu,0,none⟩),.iface 203 (.agg #[.int .i64 4,.int .i64 A,.int .i64 B,.int .u64 W])] w fun e w'=>e=.returned (.int .i64 c)/\Below w.heap.size w w':=by
 obtain ⟨wb,hwb⟩:∃ wb,wb=w.alloc (.cells #[.int .i64 4,.int .i64 A,.int .i64 B,.int .u64 W] 203):=⟨_,rfl⟩
 have hbb:Below w.heap.size w wb:=by rw [hwb]; exact bal
 have h1:=hc wb hbb
 rw [hwb] at h1
 have HWB:Hid (wb=_):=hwb
 have HBB:Hid (Below w.heap.size w wb):=hbb
 clear hwb hbb hc
 have aswriteEdit:∀ w:World,(Instr.typeAssert (.iface 203 (.agg #[.int .i64 4,.int .i64 A,.int .i64 B,.int .u64 W])) 176 200 true).run Tryz.prog w=.ok (.tuple #[.agg #[.int .i64 0,.int .i64 0,.int .i64 0,.int .u64 0],.bool false]) w:=fun _=>by kernel_rfl
 have asfreeEdit:∀ w:World,(Instr.typeAssert (.iface 203 (.agg #[.int .i64 4,.int .i64 A,.int .i64 B,.int .u64 W])) 176 203 true).run Tryz.prog w=.ok (.tuple #[.agg #[.int .i64 4,.int .i64 A,.int .i64 B,.int .u64 W],.bool true]) w:=fun _=>by kernel_rfl
 go_enter Tryz.func118,Tryz.ntmps118
 go_wp2_with fail
 refine h1.mono ?_
 rintro e w1 ⟨rfl,hb1⟩
 rw [<- HWB.out] at hb1
 go_wp2_with fail
 go_ret
 exact ⟨rfl,HBB.out.trans (hb1.mono HBB.out.size)⟩
theorem refB_any (gu:Nat) (A B W:Int) (w:World) :
  Calls Tryz.prog 118 #[.pointer (some ⟨gu,0,none⟩),.iface 201 (.agg #[.int .i64 2,.int .i64 A,.int .i64 B,.int .u64 W])] w fun e w'=>e=.returned (.int .i64 0)/\Below w.heap.size w w':=by
 have aswriteEdit:∀ w:World,(Instr.typeAssert (.iface 201 (.agg #[.int .i64 2,.int .i64 A,.int .i64 B,.int .u64 W])) 176 200 true).run Tryz.prog w=.ok (.tuple #[.agg #[.int .i64 0,.int .i64 0,.int .i64 0,.int .u64 0],.bool false]) w:=fun _=>by kernel_rfl
 have asfreeEdit:∀ w:World,(Instr.typeAssert (.iface 201 (.agg #[.int .i64 2,.int .i64 A,.int .i64 B,.int .u64 W])) 176 203 true).run Tryz.prog w=.ok (.tuple #[.agg #[.int .i64 0,.int .i64 0,.int .i64 0,.int .u64 0],.bool false]) w:=fun _=>by kernel_rfl
 go_enter Tryz.func118,Tryz.ntmps118
 go_wp2_with fail
 go_ret
 exact ⟨rfl,Below.refl _ _⟩
theorem refI_any (gu:Nat) (A B W:Int) (w:World) :
  Calls Tryz.prog 118 #[.pointer (some ⟨gu,0,none⟩),.iface 202 (.agg #[.int .i64 3,.int .i64 A,.int .i64 B,.int .u64 W])] w fun e w'=>e=.returned (.int .i64 0)/\Below w.heap.size w w':=by
 have aswriteEdit:∀ w:World,(Instr.typeAssert (.iface 202 (.agg #[.int .i64 3,.int .i64 A,.int .i64 B,.int .u64 W])) 176 200 true).run Tryz.prog w=.ok (.tuple #[.agg #[.int .i64 0,.int .i64 0,.int .i64 0,.int .u64 0],.bool false]) w:=fun _=>by kernel_rfl
 have asfreeEdit:∀ w:World,(Instr.typeAssert (.iface 202 (.agg #[.int .i64 3,.int .i64 A,.int .i64 B,.int .u64 W])) 176 203 true).run Tryz.prog w=.ok (.tuple #[.agg #[.int .i64 0,.int .i64 0,.int .i64 0,.int .u64 0],.bool false]) w:=fun _=>by kernel_rfl
 go_enter Tryz.func118,Tryz.ntmps118
 go_wp2_with fail
 go_ret
 exact ⟨rfl,Below.refl _ _⟩
theorem iface_nil {P:Program} {ms:Array (String × TypeId)} (w:World) (ti tp:TypeId) (v:Value) (hi:P.underlying ti=some (.interface ms)):(binOp .eql ti (.iface tp v) .nilIface).run P w=.ok (.bool false) w:=by
 have h:∀ d:Nat,(Op.equalIn (d+1) ti (.iface tp v) .nilIface).run P w=.ok false w:=fun d=>by simp [Op.equalIn,run_underlying hi]
 simp only [binOp]
 simp [Op.equal,Op.maxDepth,h 9999]
theorem step0_any (gu:Nat) (K A B W:Int) (w:World) (h1:¬ K=1) (h2:¬ K=2) (h3:¬ K=3) (h4:¬ K=4) :
  Calls Tryz.prog 72 #[.pointer (some ⟨gu,0,none⟩),.agg #[.int .i64 K,.int .i64 A,.int .i64 B,.int .u64 W]] w fun e w'=>e=.returned (.int .i64 1)/\Below w.heap.size w w':=by
 have he:=edit0_any K A B W
 go_enter Tryz.func72,Tryz.ntmps72
 go_wp2_with fail
 refine (he _ h1 h2 h3 h4).mono ?_
 rintro e w1 ⟨rfl,hb1⟩
 go_wp2_with fail
 go_ret
 exact ⟨rfl,bal.trans (hb1.mono (by simp))⟩
set_option maxRecDepth 100000 in
set_option maxHeartbeats 1000000 in
theorem step1_any (gu:Nat) (A B W c:Int) (wf:Bool) (w:World) (R:World->Prop)
  (hw:∀ wX,Below w.heap.size w wX->Calls Tryz.prog 183 #[.agg #[.int .i64 1,.int .i64 A,.int .i64 B,.int .u64 W],.pointer (some ⟨gu,0,none⟩)] wX fun e w'=>e=.returned (.bool wf)/\Below wX.heap.size wX w')
  (hr:wf=true->∀ wX,Below w.heap.size w wX->Calls Tryz.prog 118 #[.pointer (some ⟨gu,0,none⟩),.iface 200 (.agg #[.int .i64 1,.int .i64 A,.int .i64 B,.int .u64 W])] wX fun e w'=>e=.returned (.int .i64 c)/\Below wX.heap.size wX w')
  (ha:wf=true->c=0->∀ wX,Below w.heap.size w wX->Calls Tryz.prog 182 #[.agg #[.int .i64 1,.int .i64 A,.int .i64 B,.int .u64 W],.pointer (some ⟨gu,0,none⟩)] wX fun e w'=>e=.returned (.tuple #[])/\R w') :
  Calls Tryz.prog 72 #[.pointer (some ⟨gu,0,none⟩),.agg #[.int .i64 1,.int .i64 A,.int .i64 B,.int .u64 W]] w fun e w'=>e=.returned (.int .i64 (if wf then c else 1))/\(if wf=true/\c=0 then R w' else Below w.heap.size w w'):=by
 have he:=edit1_any A B W
 have heq:∀ w:World,(binOp .eql 176 (.iface 200 (.agg #[.int .i64 1,.int .i64 A,.int .i64 B,.int .u64 W])) .nilIface).run Tryz.prog w=.ok (.bool false) w:=fun w=>iface_nil w _ _ _ Tryz.underlying176
 have hm1 : ∀ w : World, (method 176 200 (.agg #[.int .i64 1, .int .i64 A, .int .i64 B, .int .u64 W]) "loop.example/s0047/impl.wellFormed").run Tryz.prog w = .ok (183, .agg #[.int .i64 1, .int .i64 A, .int .i64 B, .int .u64 W]) w := fun _ => by kernel_rfl
 have hm2 : ∀ w : World, (method 176 200 (.agg #[.int .i64 1, .int .i64 A, .int .i64 B, .int .u64 W]) "loop.example/s0047/impl.apply").run Tryz.prog w = .ok (182, .agg #[.int .i64 1, .int .i64 A, .int .i64 B, .int .u64 W]) w := fun _ => by kernel_rfl
 obtain ⟨wb,hwb⟩:∃ wb,wb=w.alloc (.cells #[.int .i64 1,.int .i64 A,.int .i64 B,.int .u64 W] 51):=⟨_,rfl⟩
 have hbb:Below w.heap.size w wb:=by rw [hwb]; exact bal
 have he1:=he wb
 rw [hwb] at he1
 have HWB:Hid (wb=_):=hwb
 have HBB:Hid (Below w.heap.size w wb):=hbb
 have HW:Hid _:=hw
 have HR:Hid _:=hr
 have HA:Hid _:=ha
 clear hwb hbb hw hr ha he
 cases wf
 ·simp only [Bool.false_eq_true,if_false,false_and]
  go_enter Tryz.func72,Tryz.ntmps72
  go_wp2_with fail
  refine he1.mono ?_
  rintro e w1 ⟨rfl,hb1'⟩
  have hb1:Below wb.heap.size wb w1:=by rw [HWB.out]; exact hb1'
  have b1:Below w.heap.size w w1:=HBB.out.trans (hb1.mono HBB.out.size)
  clear hb1 hb1' he1
  go_wp2_with fail
  refine (HW.out w1 b1).mono ?_
  rintro e w2 ⟨rfl,hb2⟩
  go_wp2_with fail
  go_ret
  exact ⟨rfl,b1.trans (hb2.mono b1.size)⟩
 ·simp only [if_true,true_and]
  by_cases hc:c=0
  ·subst hc
   simp only [if_true]
   go_enter Tryz.func72,Tryz.ntmps72
   go_wp2_with fail
   refine he1.mono ?_
   rintro e w1 ⟨rfl,hb1'⟩
   have hb1:Below wb.heap.size wb w1:=by rw [HWB.out]; exact hb1'
   have b1:Below w.heap.size w w1:=HBB.out.trans (hb1.mono HBB.out.size)
   clear hb1 hb1' he1
   go_wp2_with fail
   refine (HW.out w1 b1).mono ?_
   rintro e w2 ⟨rfl,hb2⟩
   have b2:Below w.heap.size w w2:=b1.trans (hb2.mono b1.size)
   go_wp2_with fail
   refine (HR.out (by trivial) w2 b2).mono ?_
   rintro e w3 ⟨rfl,hb3⟩
   have b3:Below w.heap.size w w3:=b2.trans (hb3.mono b2.size)
   go_wp2_with fail
   refine (HA.out (by trivial) (by trivial) w3 b3).mono ?_
   rintro e w4 ⟨rfl,hR4⟩
   go_wp2_with fail
   go_ret
   exact ⟨rfl,hR4⟩
  ·have dc:(c != 0)=true:=by simpa using hc
   simp only [hc,if_false]
   clear hc
   go_enter Tryz.func72,Tryz.ntmps72
   go_wp2_with fail
   refine he1.mono ?_
   rintro e w1 ⟨rfl,hb1'⟩
   have hb1:Below wb.heap.size wb w1:=by rw [HWB.out]; exact hb1'
   have b1:Below w.heap.size w w1:=HBB.out.trans (hb1.mono HBB.out.size)
   clear hb1 hb1' he1
   go_wp2_with fail
   refine (HW.out w1 b1).mono ?_
   rintro e w2 ⟨rfl,hb2⟩
   have b2:Below w.heap.size w w2:=b1.trans (hb2.mono b1.size)
   go_wp2_with fail
   refine (HR.out (by trivial) w2 b2).mono ?_
   rintro e w3 ⟨rfl,hb3⟩
   have b3:Below w.heap.size w w3:=b2.trans (hb3.mono b2.size)
   go_wp2_with fail
   go_ret
   exact ⟨rfl,b3⟩
set_option maxRecDepth 100000 in
set_option maxHeartbeats 1000000 in
theorem step2_any (gu:Nat) (A B W c:Int) (wf:Bool) (w:World) (R:World->Prop)
  (hw:∀ wX,Below w.heap.size w wX->Calls Tryz.prog 185 #[.agg #[.int .i64 2,.int .i64 A,.int .i64 B,.int .u64 W],.pointer (some ⟨gu,0,none⟩)] wX fun e w'=>e=.returned (.bool wf)/\Below wX.heap.size wX w')
  (hr:wf=true->∀ wX,Below w.heap.size w wX->Calls Tryz.prog 118 #[.pointer (some ⟨gu,0,none⟩),.iface 201 (.agg #[.int .i64 2,.int .i64 A,.int .i64 B,.int .u64 W])] wX fun e w'=>e=.returned (.int .i64 c)/\Below wX.heap.size wX w')
  (ha:wf=true->c=0->∀ wX,Below w.heap.size w wX->Calls Tryz.prog 184 #[.agg #[.int .i64 2,.int .i64 A,.int .i64 B,.int .u64 W],.pointer (some ⟨gu,0,none⟩)] wX fun e w'=>e=.returned (.tuple #[])/\R w') :
  Calls Tryz.prog 72 #[.pointer (some ⟨gu,0,none⟩),.agg #[.int .i64 2,.int .i64 A,.int .i64 B,.int .u64 W]] w fun e w'=>e=.returned (.int .i64 (if wf then c else 1))/\(if wf=true/\c=0 then R w' else Below w.heap.size w w'):=by
 have he:=edit2_any A B W
 have heq:∀ w:World,(binOp .eql 176 (.iface 201 (.agg #[.int .i64 2,.int .i64 A,.int .i64 B,.int .u64 W])) .nilIface).run Tryz.prog w=.ok (.bool false) w:=fun w=>iface_nil w _ _ _ Tryz.underlying176
 have hm1 : ∀ w : World, (method 176 201 (.agg #[.int .i64 2, .int .i64 A, .int .i64 B, .int .u64 W]) "loop.example/s0047/impl.wellFormed").run Tryz.prog w = .ok (185, .agg #[.int .i64 2, .int .i64 A, .int .i64 B, .int .u64 W]) w := fun _ => by kernel_rfl
 have hm2 : ∀ w : World, (method 176 201 (.agg #[.int .i64 2, .int .i64 A, .int .i64 B, .int .u64 W]) "loop.example/s0047/impl.apply").run Tryz.prog w = .ok (184, .agg #[.int .i64 2, .int .i64 A, .int .i64 B, .int .u64 W]) w := fun _ => by kernel_rfl
 obtain ⟨wb,hwb⟩:∃ wb,wb=w.alloc (.cells #[.int .i64 2,.int .i64 A,.int .i64 B,.int .u64 W] 51):=⟨_,rfl⟩
 have hbb:Below w.heap.size w wb:=by rw [hwb]; exact bal
 have he1:=he wb
 rw [hwb] at he1
 have HWB:Hid (wb=_):=hwb
 have HBB:Hid (Below w.heap.size w wb):=hbb
 have HW:Hid _:=hw
 have HR:Hid _:=hr
 have HA:Hid _:=ha
 clear hwb hbb hw hr ha he
 cases wf
 ·simp only [Bool.false_eq_true,if_false,false_and]
  go_enter Tryz.func72,Tryz.ntmps72
  go_wp2_with fail
  refine he1.mono ?_
  rintro e w1 ⟨rfl,hb1'⟩
  have hb1:Below wb.heap.size wb w1:=by rw [HWB.out]; exact hb1'
  have b1:Below w.heap.size w w1:=HBB.out.trans (hb1.mono HBB.out.size)
  clear hb1 hb1' he1
  go_wp2_with fail
  refine (HW.out w1 b1).mono ?_
  rintro e w2 ⟨rfl,hb2⟩
  go_wp2_with fail
  go_ret
  exact ⟨rfl,b1.trans (hb2.mono b1.size)⟩
 ·simp only [if_true,true_and]
  by_cases hc:c=0
  ·subst hc
   simp only [if_true]
   go_enter Tryz.func72,Tryz.ntmps72
   go_wp2_with fail
   refine he1.mono ?_
   rintro e w1 ⟨rfl,hb1'⟩
   have hb1:Below wb.heap.size wb w1:=by rw [HWB.out]; exact hb1'
   have b1:Below w.heap.size w w1:=HBB.out.trans (hb1.mono HBB.out.size)
   clear hb1 hb1' he1
   go_wp2_with fail
   refine (HW.out w1 b1).mono ?_
   rintro e w2 ⟨rfl,hb2⟩
   have b2:Below w.heap.size w w2:=b1.trans (hb2.mono b1.size)
   go_wp2_with fail
   refine (HR.out (by trivial) w2 b2).mono ?_
   rintro e w3 ⟨rfl,hb3⟩
   have b3:Below w.heap.size w w3:=b2.trans (hb3.mono b2.size)
   go_wp2_with fail
   refine (HA.out (by trivial) (by trivial) w3 b3).mono ?_
   rintro e w4 ⟨rfl,hR4⟩
   go_wp2_with fail
   go_ret
   exact ⟨rfl,hR4⟩
  ·have dc:(c != 0)=true:=by simpa using hc
   simp only [hc,if_false]
   clear hc
   go_enter Tryz.func72,Tryz.ntmps72
   go_wp2_with fail
   refine he1.mono ?_
   rintro e w1 ⟨rfl,hb1'⟩
   have hb1:Below wb.heap.size wb w1:=by rw [HWB.out]; exact hb1'
   have b1:Below w.heap.size w w1:=HBB.out.trans (hb1.mono HBB.out.size)
   clear hb1 hb1' he1
   go_wp2_with fail
   refine (HW.out w1 b1).mono ?_
   rintro e w2 ⟨rfl,hb2⟩
   have b2:Below w.heap.size w w2:=b1.trans (hb2.mono b1.size)
   go_wp2_with fail
   refine (HR.out (by trivial) w2 b2).mono ?_
   rintro e w3 ⟨rfl,hb3⟩
   have b3:Below w.heap.size w w3:=b2.trans (hb3.mono b2.size)
   go_wp2_with fail
   go_ret
   exact ⟨rfl,b3⟩
set_option maxRecDepth 100000 in
set_option maxHeartbeats 1000000 in
theorem step3_any (gu:Nat) (A B W c:Int) (wf:Bool) (w:World) (R:World->Prop)
  (hw:∀ wX,Below w.heap.size w wX->Calls Tryz.prog 193 #[.agg #[.int .i64 3,.int .i64 A,.int .i64 B,.int .u64 W],.pointer (some ⟨gu,0,none⟩)] wX fun e w'=>e=.returned (.bool wf)/\Below wX.heap.size wX w')
  (hr:wf=true->∀ wX,Below w.heap.size w wX->Calls Tryz.prog 118 #[.pointer (some ⟨gu,0,none⟩),.iface 202 (.agg #[.int .i64 3,.int .i64 A,.int .i64 B,.int .u64 W])] wX fun e w'=>e=.returned (.int .i64 c)/\Below wX.heap.size wX w')
  (ha:wf=true->c=0->∀ wX,Below w.heap.size w wX->Calls Tryz.prog 192 #[.agg #[.int .i64 3,.int .i64 A,.int .i64 B,.int .u64 W],.pointer (some ⟨gu,0,none⟩)] wX fun e w'=>e=.returned (.tuple #[])/\R w') :
  Calls Tryz.prog 72 #[.pointer (some ⟨gu,0,none⟩),.agg #[.int .i64 3,.int .i64 A,.int .i64 B,.int .u64 W]] w fun e w'=>e=.returned (.int .i64 (if wf then c else 1))/\(if wf=true/\c=0 then R w' else Below w.heap.size w w'):=by
 have he:=edit3_any A B W
 have heq:∀ w:World,(binOp .eql 176 (.iface 202 (.agg #[.int .i64 3,.int .i64 A,.int .i64 B,.int .u64 W])) .nilIface).run Tryz.prog w=.ok (.bool false) w:=fun w=>iface_nil w _ _ _ Tryz.underlying176
 have hm1 : ∀ w : World, (method 176 202 (.agg #[.int .i64 3, .int .i64 A, .int .i64 B, .int .u64 W]) "loop.example/s0047/impl.wellFormed").run Tryz.prog w = .ok (193, .agg #[.int .i64 3, .int .i64 A, .int .i64 B, .int .u64 W]) w := fun _ => by kernel_rfl
 have hm2 : ∀ w : World, (method 176 202 (.agg #[.int .i64 3, .int .i64 A, .int .i64 B, .int .u64 W]) "loop.example/s0047/impl.apply").run Tryz.prog w = .ok (192, .agg #[.int .i64 3, .int .i64 A, .int .i64 B, .int .u64 W]) w := fun _ => by kernel_rfl
 obtain ⟨wb,hwb⟩:∃ wb,wb=w.alloc (.cells #[.int .i64 3,.int .i64 A,.int .i64 B,.int .u64 W] 51):=⟨_,rfl⟩
 have hbb:Below w.heap.size w wb:=by rw [hwb]; exact bal
 have he1:=he wb
 rw [hwb] at he1
 have HWB:Hid (wb=_):=hwb
 have HBB:Hid (Below w.heap.size w wb):=hbb
 have HW:Hid _:=hw
 have HR:Hid _:=hr
 have HA:Hid _:=ha
 clear hwb hbb hw hr ha he
 cases wf
 ·simp only [Bool.false_eq_true,if_false,false_and]
  go_enter Tryz.func72,Tryz.ntmps72
  go_wp2_with fail
  refine he1.mono ?_
  rintro e w1 ⟨rfl,hb1'⟩
  have hb1:Below wb.heap.size wb w1:=by rw [HWB.out]; exact hb1'
  have b1:Below w.heap.size w w1:=HBB.out.trans (hb1.mono HBB.out.size)
  clear hb1 hb1' he1
  go_wp2_with fail
  refine (HW.out w1 b1).mono ?_
  rintro e w2 ⟨rfl,hb2⟩
  go_wp2_with fail
  go_ret
  exact ⟨rfl,b1.trans (hb2.mono b1.size)⟩
 ·simp only [if_true,true_and]
  by_cases hc:c=0
  ·subst hc
   simp only [if_true]
   go_enter Tryz.func72,Tryz.ntmps72
   go_wp2_with fail
   refine he1.mono ?_
   rintro e w1 ⟨rfl,hb1'⟩
   have hb1:Below wb.heap.size wb w1:=by rw [HWB.out]; exact hb1'
   have b1:Below w.heap.size w w1:=HBB.out.trans (hb1.mono HBB.out.size)
   clear hb1 hb1' he1
   go_wp2_with fail
   refine (HW.out w1 b1).mono ?_
   rintro e w2 ⟨rfl,hb2⟩
   have b2:Below w.heap.size w w2:=b1.trans (hb2.mono b1.size)
   go_wp2_with fail
   refine (HR.out (by trivial) w2 b2).mono ?_
   rintro e w3 ⟨rfl,hb3⟩
   have b3:Below w.heap.size w w3:=b2.trans (hb3.mono b2.size)
   go_wp2_with fail
   refine (HA.out (by trivial) (by trivial) w3 b3).mono ?_
   rintro e w4 ⟨rfl,hR4⟩
   go_wp2_with fail
   go_ret
   exact ⟨rfl,hR4⟩
  ·have dc:(c != 0)=true:=by simpa using hc
   simp only [hc,if_false]
   clear hc
   go_enter Tryz.func72,Tryz.ntmps72
   go_wp2_with fail
   refine he1.mono ?_
   rintro e w1 ⟨rfl,hb1'⟩
   have hb1:Below wb.heap.size wb w1:=by rw [HWB.out]; exact hb1'
   have b1:Below w.heap.size w w1:=HBB.out.trans (hb1.mono HBB.out.size)
   clear hb1 hb1' he1
   go_wp2_with fail
   refine (HW.out w1 b1).mono ?_
   rintro e w2 ⟨rfl,hb2⟩
   have b2:Below w.heap.size w w2:=b1.trans (hb2.mono b1.size)
   go_wp2_with fail
   refine (HR.out (by trivial) w2 b2).mono ?_
   rintro e w3 ⟨rfl,hb3⟩
   have b3:Below w.heap.size w w3:=b2.trans (hb3.mono b2.size)
   go_wp2_with fail
   go_ret
   exact ⟨rfl,b3⟩
set_option maxRecDepth 100000 in
set_option maxHeartbeats 1000000 in
theorem step4_any (gu:Nat) (A B W c:Int) (wf:Bool) (w:World) (R:World->Prop)
  (hw:∀ wX,Below w.heap.size w wX->Calls Tryz.prog 196 #[.agg #[.int .i64 4,.int .i64 A,.int .i64 B,.int .u64 W],.pointer (some ⟨gu,0,none⟩)] wX fun e w'=>e=.returned (.bool wf)/\Below wX.heap.size wX w')
  (hr:wf=true->∀ wX,Below w.heap.size w wX->Calls Tryz.prog 118 #[.pointer (some ⟨gu,0,none⟩),.iface 203 (.agg #[.int .i64 4,.int .i64 A,.int .i64 B,.int .u64 W])] wX fun e w'=>e=.returned (.int .i64 c)/\Below wX.heap.size wX w')
  (ha:wf=true->c=0->∀ wX,Below w.heap.size w wX->Calls Tryz.prog 195 #[.agg #[.int .i64 4,.int .i64 A,.int .i64 B,.int .u64 W],.pointer (some ⟨gu,0,none⟩)] wX fun e w'=>e=.returned (.tuple #[])/\R w') :
  Calls Tryz.prog 72 #[.pointer (some ⟨gu,0,none⟩),.agg #[.int .i64 4,.int .i64 A,.int .i64 B,.int .u64 W]] w fun e w'=>e=.returned (.int .i64 (if wf then c else 1))/\(if wf=true/\c=0 then R w' else Below w.heap.size w w'):=by
 have he:=edit4_any A B W
 have heq:∀ w:World,(binOp .eql 176 (.iface 203 (.agg #[.int .i64 4,.int .i64 A,.int .i64 B,.int .u64 W])) .nilIface).run Tryz.prog w=.ok (.bool false) w:=fun w=>iface_nil w _ _ _ Tryz.underlying176
 have hm1 : ∀ w : World, (method 176 203 (.agg #[.int .i64 4, .int .i64 A, .int .i64 B, .int .u64 W]) "loop.example/s0047/impl.wellFormed").run Tryz.prog w = .ok (196, .agg #[.int .i64 4, .int .i64 A, .int .i64 B, .int .u64 W]) w := fun _ => by kernel_rfl
 have hm2 : ∀ w : World, (method 176 203 (.agg #[.int .i64 4, .int .i64 A, .int .i64 B, .int .u64 W]) "loop.example/s0047/impl.apply").run Tryz.prog w = .ok (195, .agg #[.int .i64 4, .int .i64 A, .int .i64 B, .int .u64 W]) w := fun _ => by kernel_rfl
 obtain ⟨wb,hwb⟩:∃ wb,wb=w.alloc (.cells #[.int .i64 4,.int .i64 A,.int .i64 B,.int .u64 W] 51):=⟨_,rfl⟩
 have hbb:Below w.heap.size w wb:=by rw [hwb]; exact bal
 have he1:=he wb
 rw [hwb] at he1
 have HWB:Hid (wb=_):=hwb
 have HBB:Hid (Below w.heap.size w wb):=hbb
 have HW:Hid _:=hw
 have HR:Hid _:=hr
 have HA:Hid _:=ha
 clear hwb hbb hw hr ha he
 cases wf
 ·simp only [Bool.false_eq_true,if_false,false_and]
  go_enter Tryz.func72,Tryz.ntmps72
  go_wp2_with fail
  refine he1.mono ?_
  rintro e w1 ⟨rfl,hb1'⟩
  have hb1:Below wb.heap.size wb w1:=by rw [HWB.out]; exact hb1'
  have b1:Below w.heap.size w w1:=HBB.out.trans (hb1.mono HBB.out.size)
  clear hb1 hb1' he1
  go_wp2_with fail
  refine (HW.out w1 b1).mono ?_
  rintro e w2 ⟨rfl,hb2⟩
  go_wp2_with fail
  go_ret
  exact ⟨rfl,b1.trans (hb2.mono b1.size)⟩
 ·simp only [if_true,true_and]
  by_cases hc:c=0
  ·subst hc
   simp only [if_true]
   go_enter Tryz.func72,Tryz.ntmps72
   go_wp2_with fail
   refine he1.mono ?_
   rintro e w1 ⟨rfl,hb1'⟩
   have hb1:Below wb.heap.size wb w1:=by rw [HWB.out]; exact hb1'
   have b1:Below w.heap.size w w1:=HBB.out.trans (hb1.mono HBB.out.size)
   clear hb1 hb1' he1
   go_wp2_with fail
   refine (HW.out w1 b1).mono ?_
   rintro e w2 ⟨rfl,hb2⟩
   have b2:Below w.heap.size w w2:=b1.trans (hb2.mono b1.size)
   go_wp2_with fail
   refine (HR.out (by trivial) w2 b2).mono ?_
   rintro e w3 ⟨rfl,hb3⟩
   have b3:Below w.heap.size w w3:=b2.trans (hb3.mono b2.size)
   go_wp2_with fail
   refine (HA.out (by trivial) (by trivial) w3 b3).mono ?_
   rintro e w4 ⟨rfl,hR4⟩
   go_wp2_with fail
   go_ret
   exact ⟨rfl,hR4⟩
  ·have dc:(c != 0)=true:=by simpa using hc
   simp only [hc,if_false]
   clear hc
   go_enter Tryz.func72,Tryz.ntmps72
   go_wp2_with fail
   refine he1.mono ?_
   rintro e w1 ⟨rfl,hb1'⟩
   have hb1:Below wb.heap.size wb w1:=by rw [HWB.out]; exact hb1'
   have b1:Below w.heap.size w w1:=HBB.out.trans (hb1.mono HBB.out.size)
   clear hb1 hb1' he1
   go_wp2_with fail
   refine (HW.out w1 b1).mono ?_
   rintro e w2 ⟨rfl,hb2⟩
   have b2:Below w.heap.size w w2:=b1.trans (hb2.mono b1.size)
   go_wp2_with fail
   refine (HR.out (by trivial) w2 b2).mono ?_
   rintro e w3 ⟨rfl,hb3⟩
   have b3:Below w.heap.size w w3:=b2.trans (hb3.mono b2.size)
   go_wp2_with fail
   go_ret
   exact ⟨rfl,b3⟩
attribute [local go_sem ↓] Go.wp_at_zero Go.wp_at_succ
set_option maxHeartbeats 1000000 in
theorem mStep_any (gu b0 B:Nat) (u:UV) (M:Mach) (o:OpE) (w:World) (hok:WOk M) (hv:validB M=true) (ho:OpOk o) (th:UThree u) (h:UM w gu b0 B true u M) :
  Calls Tryz.prog 72 #[.pointer (some ⟨gu,0,none⟩),.agg #[.int .i64 o.kind,.int .i64 o.a,.int .i64 o.b,.int .u64 o.word]] w fun e w'=>e=.returned (.int .i64 (opM M o).2)/\∃ u',UWide w w' gu b0 B u u' (opM M o).1:=by
 have hmm:=nfr_mul M.mem.length hok.n0
 have hml:=nfr_le M.mem.length
 have hpd:∀ i,i < M.pend.length->0<=(eAt eWrite M.pend i).addr:=fun i hi=>(valid_pend hv i hi).1
 obtain ⟨K,A,Bb,W⟩:=o
 have hw0:=ho.w.1
 have hw1:W < 18446744073709551616:=by have:=ho.w.2; dsimp only at this; omega
 dsimp only at hw0
 have same:∀ c,∀ w',Below w.heap.size w w'->(opM M ⟨K,A,Bb,W⟩=(M,c))->∃ u',UWide w w' gu b0 B u u' (opM M ⟨K,A,Bb,W⟩).1:=fun c w' hb he=>⟨u,by rw [he]; exact UWide.refl h th hb⟩
 by_cases k1:K=1
 ·subst k1
  have hwf:∀ wX,Below w.heap.size w wX->Calls Tryz.prog 183 #[.agg #[.int .i64 1,.int .i64 A,.int .i64 Bb,.int .u64 W],.pointer (some ⟨gu,0,none⟩)] wX fun e w'=>e=.returned (.bool (opB M ⟨1,A,Bb,W⟩))/\Below wX.heap.size wX w':=fun wX hX=>by
   have:=wfWrite_any gu 1 A Bb W u.a1 u.a3 M.mem.length u.c1 M.pend.length u.c3 wX (Nat.lt_of_lt_of_le h.lt hX.size) (h.below hX).q0 (h.below hX).q2
   have e:opB M ⟨1,A,Bb,W⟩=decide (0<=A/\A < (M.mem.length:Int)/\Bb=0/\(M.pend.length:Int) < 10000):=by
    unfold opB
    rw [if_pos rfl]
    exact decide_eq_decide.2 ⟨fun hh=>⟨hh.1,hh.2.1,hh.2.2.1,by omega⟩,fun hh=>⟨hh.1,hh.2.1,hh.2.2.1,by omega⟩⟩
   rw [e]
   exact this
  have hA:opB M ⟨1,A,Bb,W⟩=true->∃ N:Nat,A=N/\N < M.mem.length/\M.pend.length < 10000:=fun hb=>by
   unfold opB at hb
   rw [if_pos rfl,decide_eq_true_eq] at hb
   dsimp only at hb
   exact ⟨A.toNat,by omega,by omega,by omega⟩
  refine (step1_any gu A Bb W (wrCode M ⟨1,A,Bb,W⟩) (opB M ⟨1,A,Bb,W⟩) w (fun w'=>∃ u',UWide w w' gu b0 B u u' ⟨M.mem,M.pend ++ [⟨A,W⟩],M.tlb,M.wc⟩) hwf (fun hb wX hX=>?_) (fun hb hc wX hX=>?_)).mono ?_
  ·obtain ⟨N,rfl,hN,_⟩:=hA hb
   exact refW_any gu N Bb W _ wX (Nat.lt_of_lt_of_le h.lt hX.size) (fun wY hY=>writeRef_any gu b0 B u M N ⟨1,N,Bb,W⟩ wY rfl hN hw0 hw1 hok hv (h.below (hX.trans (hY.mono hX.size))))
  ·obtain ⟨N,rfl,hN,hp⟩:=hA hb
   refine (wrApply_any gu b0 B u M 1 Bb W N wX hN (by omega) hp th (h.below hX)).mono ?_
   rintro e w' ⟨rfl,u',hu'⟩
   exact ⟨rfl,u',(UWide.refl h th hX).trans hu'⟩
  ·rintro e w' ⟨rfl,hR⟩
   cases hb:opB M ⟨1,A,Bb,W⟩
   ·have hop:opM M ⟨1,A,Bb,W⟩=(M,1):=by unfold opM; rw [hb]; rfl
    rw [hb] at hR
    simp only [Bool.false_eq_true,false_and,if_false] at hR
    exact ⟨by rw [hop]; rfl,same 1 w' hR hop⟩
   ·have hop:opM M ⟨1,A,Bb,W⟩=(if wrCode M ⟨1,A,Bb,W⟩=0 then ⟨M.mem,M.pend ++ [⟨A,W⟩],M.tlb,M.wc⟩ else M,wrCode M ⟨1,A,Bb,W⟩):=by unfold opM; rw [hb]; rfl
    rw [hb] at hR
    by_cases hc:wrCode M ⟨1,A,Bb,W⟩=0
    ·rw [if_pos ⟨rfl,hc⟩] at hR
     rw [hop,if_pos hc]
     exact ⟨rfl,hR⟩
    ·rw [if_neg (fun hh=>hc hh.2)] at hR
     rw [if_neg hc] at hop
     exact ⟨by rw [hop]; rfl,same _ w' hR hop⟩
 ·by_cases k2:K=2
  ·subst k2
   have hwf:∀ wX,Below w.heap.size w wX->Calls Tryz.prog 185 #[.agg #[.int .i64 2,.int .i64 A,.int .i64 Bb,.int .u64 W],.pointer (some ⟨gu,0,none⟩)] wX fun e w'=>e=.returned (.bool (opB M ⟨2,A,Bb,W⟩))/\Below wX.heap.size wX w':=fun wX hX=>by
    have e:opB M ⟨2,A,Bb,W⟩=decide (A=0/\Bb=0/\W=0):=by unfold opB; rw [if_neg (by dsimp only; decide),if_pos rfl]
    rw [e]
    exact wfBarrier_any gu 2 A Bb W wX
   refine (step2_any gu A Bb W 0 (opB M ⟨2,A,Bb,W⟩) w (fun w'=>∃ u',UWide w w' gu b0 B u u' ⟨lateL M,[],M.tlb.filter (fun e=>!e.doom),M.wc.filter (fun e=>!e.doom)⟩) hwf (fun hb wX hX=>refB_any gu A Bb W wX) (fun hb hc wX hX=>?_)).mono ?_
   ·refine (barApply_any gu b0 B u M 2 A Bb W wX hok th (h.below hX)).mono ?_
    rintro e w' ⟨rfl,u',hu'⟩
    exact ⟨rfl,u',(UWide.refl h th hX).trans hu'⟩
   ·rintro e w' ⟨rfl,hR⟩
    cases hb:opB M ⟨2,A,Bb,W⟩
    ·have hop:opM M ⟨2,A,Bb,W⟩=(M,1):=by unfold opM; rw [hb]; rfl
     rw [hb] at hR
     simp only [Bool.false_eq_true,false_and,if_false] at hR
     exact ⟨by rw [hop]; rfl,same 1 w' hR hop⟩
    ·have hop:opM M ⟨2,A,Bb,W⟩=(⟨lateL M,[],M.tlb.filter (fun e=>!e.doom),M.wc.filter (fun e=>!e.doom)⟩,0):=by unfold opM; rw [hb]; rfl
     rw [hb,if_pos ⟨rfl,rfl⟩] at hR
     rw [hop]
     exact ⟨rfl,hR⟩
  ·by_cases k3:K=3
   ·subst k3
    have e:opB M ⟨3,A,Bb,W⟩=decide (0<=A/\A < 4096/\1<=Bb/\A+Bb<=4096/\W=0):=by unfold opB; rw [if_neg (by dsimp only; decide),if_neg (by dsimp only; decide),if_pos rfl]
    have hwf:∀ wX,Below w.heap.size w wX->Calls Tryz.prog 193 #[.agg #[.int .i64 3,.int .i64 A,.int .i64 Bb,.int .u64 W],.pointer (some ⟨gu,0,none⟩)] wX fun e w'=>e=.returned (.bool (opB M ⟨3,A,Bb,W⟩))/\Below wX.heap.size wX w':=fun wX hX=>by
     rw [e]
     by_cases ha:0<=A/\A < 4096
     ·exact wfInv_any gu 3 A Bb W wX ha.1 ha.2
     ·exact wfInv_no gu 3 A Bb W wX ha
    refine (step3_any gu A Bb W 0 (opB M ⟨3,A,Bb,W⟩) w (fun w'=>∃ u',UWide w w' gu b0 B u u' ⟨M.mem,M.pend,M.tlb.map (doomT A Bb),M.wc.map (doomW A Bb)⟩) hwf (fun hb wX hX=>refI_any gu A Bb W wX) (fun hb hc wX hX=>?_)).mono ?_
    ·rw [e,decide_eq_true_eq] at hb
     refine (invApply_any gu b0 B u M 3 A Bb W wX hv hb.1 hb.2.1 hb.2.2.1 (by omega) hok.t hok.c (h.below hX)).mono ?_
     rintro e w' ⟨rfl,hu',ht'⟩
     refine ⟨rfl,u,(UWide.refl h th hX).trans ⟨hu',⟨ht'.os,ht'.tape,ht'.output,ht'.size,fun k hk hn=>ht'.block k hk (fun hx=>hn (hx.elim (fun e=>.inr (.inr (.inr (.inr (.inl e))))) (fun e=>.inr (.inr (.inr (.inr (.inr e)))))))⟩,fun k hk=>.inl hk,th⟩⟩
    ·rintro e' w' ⟨rfl,hR⟩
     cases hb:opB M ⟨3,A,Bb,W⟩
     ·have hop:opM M ⟨3,A,Bb,W⟩=(M,1):=by unfold opM; rw [hb]; rfl
      rw [hb] at hR
      simp only [Bool.false_eq_true,false_and,if_false] at hR
      exact ⟨by rw [hop]; rfl,same 1 w' hR hop⟩
     ·have hop:opM M ⟨3,A,Bb,W⟩=(⟨M.mem,M.pend,M.tlb.map (doomT A Bb),M.wc.map (doomW A Bb)⟩,0):=by unfold opM; rw [hb]; rfl
      rw [hb,if_pos ⟨rfl,rfl⟩] at hR
      rw [hop]
      exact ⟨rfl,hR⟩
   ·by_cases k4:K=4
    ·subst k4
     have hnf:nfr M.mem.length=(M.mem.length:Int) / 16:=by omega
     have e:opB M ⟨4,A,Bb,W⟩=decide (0<=A/\A < (M.mem.length:Int) / 16/\Bb=0/\W=0):=by unfold opB; rw [if_neg (by dsimp only; decide),if_neg (by dsimp only; decide),if_neg (by dsimp only; decide),if_pos rfl]; dsimp only; rw [hnf]
     have hwf:∀ wX,Below w.heap.size w wX->Calls Tryz.prog 196 #[.agg #[.int .i64 4,.int .i64 A,.int .i64 Bb,.int .u64 W],.pointer (some ⟨gu,0,none⟩)] wX fun e w'=>e=.returned (.bool (opB M ⟨4,A,Bb,W⟩))/\Below wX.heap.size wX w':=fun wX hX=>by
      rw [e]
      exact wfFree_any gu 4 A Bb W u.a1 M.mem.length u.c1 wX (by omega) (by omega) (Nat.lt_of_lt_of_le h.lt hX.size) (h.below hX).q0
     refine (step4_any gu A Bb W (if inUse M A then 4 else 0) (opB M ⟨4,A,Bb,W⟩) w (fun w'=>Below w.heap.size w w') hwf (fun hb wX hX=>?_) (fun hb hc wX hX=>?_)).mono ?_
     ·exact refF_any gu A Bb W _ wX (Nat.lt_of_lt_of_le h.lt hX.size) (fun wY hY=>freeRef_any gu b0 B u M A wY hok hpd (h.below (hX.trans (hY.mono hX.size))))
     ·refine (freeApply_any gu 4 A Bb W wX).mono ?_
      rintro e w' ⟨rfl,hb'⟩
      exact ⟨rfl,hX.trans (hb'.mono hX.size)⟩
     ·rintro e' w' ⟨rfl,hR⟩
      have hBl:Below w.heap.size w w':=by rwa [ite_self] at hR
      cases hb:opB M ⟨4,A,Bb,W⟩
      ·have hop:opM M ⟨4,A,Bb,W⟩=(M,1):=by unfold opM; rw [hb]; rfl
       exact ⟨by rw [hop]; rfl,same 1 w' hBl hop⟩
      ·have hop:opM M ⟨4,A,Bb,W⟩=(M,if inUse M A then 4 else 0):=by unfold opM; rw [hb]; rfl
       exact ⟨by rw [hop]; rfl,same _ w' hBl hop⟩
    ·have hb:opB M ⟨K,A,Bb,W⟩=false:=by unfold opB; rw [if_neg k1,if_neg k2,if_neg k3,if_neg k4]
     have hop:opM M ⟨K,A,Bb,W⟩=(M,1):=by unfold opM; rw [hb]; rfl
     refine (step0_any gu K A Bb W w k1 k2 k3 k4).mono ?_
     rintro e w' ⟨rfl,hbl⟩
     exact ⟨by rw [hop],same 1 w' hbl hop⟩
end Go.Proofs.YtiiejckfcnmhoabGreat
