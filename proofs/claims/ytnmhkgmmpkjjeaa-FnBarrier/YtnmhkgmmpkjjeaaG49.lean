import Derived.Test.YtnmhkgmmpkjjeaaG47
import Derived.Test.YtnmhkgmmpkjjeaaG36
import Derived.Test.YtnmhkgmmpkjjeaaG40
import Derived.Test.YtnmhkgmmpkjjeaaG48
namespace Go.Proofs.Ytnmhkgmmpkjjeaa
open Go.ChangeShapes Go.WideShapes Go.ChangeAt Go.RowKit
set_option linter.unusedVariables false
attribute [local go_sem ↓] Go.wp_at_zero Go.wp_at_succ
theorem refW_any (gu:Nat) (A B W c:Int) (w:World) (hg:gu < w.heap.size)
  (hc:∀ wX,Below w.heap.size w wX->Calls Try.prog 165 #[.pointer (some ⟨gu,0,none⟩),.int .i64 A,.int .u64 W] wX fun e w'=>e=.returned (.int .i64 c)/\Below wX.heap.size wX w') :
  Calls Try.prog 147 #[.pointer (some ⟨gu,0,none⟩),.iface 229 (.agg #[.int .i64 1,.int .i64 A,.int .i64 B,.int .u64 W])] w fun e w'=>e=.returned (.int .i64 c)/\Below w.heap.size w w':=by
 obtain ⟨wb,hwb⟩:∃ wb,wb=w.alloc (.cells #[.int .i64 1,.int .i64 A,.int .i64 B,.int .u64 W] 229):=⟨_,rfl⟩
 have hbb:Below w.heap.size w wb:=by rw [hwb]; exact (Below.refl _ _).alloc (Nat.le_refl _) _
 have h1:=hc wb hbb
 rw [hwb] at h1
 have HWB:Hid (wb=_):=hwb
 have HBB:Hid (Below w.heap.size w wb):=hbb
 clear hwb hbb hc
 have aswriteEdit:∀ w:World,(Instr.typeAssert (.iface 229 (.agg #[.int .i64 1,.int .i64 A,.int .i64 B,.int .u64 W])) 206 229 true).run Try.prog w=.ok (.tuple #[.agg #[.int .i64 1,.int .i64 A,.int .i64 B,.int .u64 W],.bool true]) w:=fun _=>by kernel_rfl
 have asfreeEdit:∀ w:World,(Instr.typeAssert (.iface 229 (.agg #[.int .i64 1,.int .i64 A,.int .i64 B,.int .u64 W])) 206 232 true).run Try.prog w=.ok (.tuple #[.agg #[.int .i64 0,.int .i64 0,.int .i64 0,.int .u64 0],.bool false]) w:=fun _=>by kernel_rfl
 go_enter Try.func147,Try.ntmps147
 go_wp2_with fail
 refine h1.mono ?_
 rintro e w1 ⟨rfl,hb1⟩
 rw [<- HWB.out] at hb1
 go_wp2_with fail
 go_ret
 exact ⟨rfl,HBB.out.trans (hb1.mono HBB.out.size)⟩
theorem refF_any (gu:Nat) (A B W c:Int) (w:World) (hg:gu < w.heap.size)
  (hc:∀ wX,Below w.heap.size w wX->Calls Try.prog 166 #[.pointer (some ⟨gu,0,none⟩),.int .i64 A] wX fun e w'=>e=.returned (.int .i64 c)/\Below wX.heap.size wX w') :
  Calls Try.prog 147 #[.pointer (some ⟨gu,0,none⟩),.iface 232 (.agg #[.int .i64 4,.int .i64 A,.int .i64 B,.int .u64 W])] w fun e w'=>e=.returned (.int .i64 c)/\Below w.heap.size w w':=by
 obtain ⟨wb,hwb⟩:∃ wb,wb=w.alloc (.cells #[.int .i64 4,.int .i64 A,.int .i64 B,.int .u64 W] 232):=⟨_,rfl⟩
 have hbb:Below w.heap.size w wb:=by rw [hwb]; exact (Below.refl _ _).alloc (Nat.le_refl _) _
 have h1:=hc wb hbb
 rw [hwb] at h1
 have HWB:Hid (wb=_):=hwb
 have HBB:Hid (Below w.heap.size w wb):=hbb
 clear hwb hbb hc
 have aswriteEdit:∀ w:World,(Instr.typeAssert (.iface 232 (.agg #[.int .i64 4,.int .i64 A,.int .i64 B,.int .u64 W])) 206 229 true).run Try.prog w=.ok (.tuple #[.agg #[.int .i64 0,.int .i64 0,.int .i64 0,.int .u64 0],.bool false]) w:=fun _=>by kernel_rfl
 have asfreeEdit:∀ w:World,(Instr.typeAssert (.iface 232 (.agg #[.int .i64 4,.int .i64 A,.int .i64 B,.int .u64 W])) 206 232 true).run Try.prog w=.ok (.tuple #[.agg #[.int .i64 4,.int .i64 A,.int .i64 B,.int .u64 W],.bool true]) w:=fun _=>by kernel_rfl
 go_enter Try.func147,Try.ntmps147
 go_wp2_with fail
 refine h1.mono ?_
 rintro e w1 ⟨rfl,hb1⟩
 rw [<- HWB.out] at hb1
 go_wp2_with fail
 go_ret
 exact ⟨rfl,HBB.out.trans (hb1.mono HBB.out.size)⟩
theorem refB_any (gu:Nat) (A B W:Int) (w:World) :
  Calls Try.prog 147 #[.pointer (some ⟨gu,0,none⟩),.iface 230 (.agg #[.int .i64 2,.int .i64 A,.int .i64 B,.int .u64 W])] w fun e w'=>e=.returned (.int .i64 0)/\Below w.heap.size w w':=by
 have aswriteEdit:∀ w:World,(Instr.typeAssert (.iface 230 (.agg #[.int .i64 2,.int .i64 A,.int .i64 B,.int .u64 W])) 206 229 true).run Try.prog w=.ok (.tuple #[.agg #[.int .i64 0,.int .i64 0,.int .i64 0,.int .u64 0],.bool false]) w:=fun _=>by kernel_rfl
 have asfreeEdit:∀ w:World,(Instr.typeAssert (.iface 230 (.agg #[.int .i64 2,.int .i64 A,.int .i64 B,.int .u64 W])) 206 232 true).run Try.prog w=.ok (.tuple #[.agg #[.int .i64 0,.int .i64 0,.int .i64 0,.int .u64 0],.bool false]) w:=fun _=>by kernel_rfl
 go_enter Try.func147,Try.ntmps147
 go_wp2_with fail
 go_ret
 exact ⟨rfl,Below.refl _ _⟩
theorem refI_any (gu:Nat) (A B W:Int) (w:World) :
  Calls Try.prog 147 #[.pointer (some ⟨gu,0,none⟩),.iface 231 (.agg #[.int .i64 3,.int .i64 A,.int .i64 B,.int .u64 W])] w fun e w'=>e=.returned (.int .i64 0)/\Below w.heap.size w w':=by
 have aswriteEdit:∀ w:World,(Instr.typeAssert (.iface 231 (.agg #[.int .i64 3,.int .i64 A,.int .i64 B,.int .u64 W])) 206 229 true).run Try.prog w=.ok (.tuple #[.agg #[.int .i64 0,.int .i64 0,.int .i64 0,.int .u64 0],.bool false]) w:=fun _=>by kernel_rfl
 have asfreeEdit:∀ w:World,(Instr.typeAssert (.iface 231 (.agg #[.int .i64 3,.int .i64 A,.int .i64 B,.int .u64 W])) 206 232 true).run Try.prog w=.ok (.tuple #[.agg #[.int .i64 0,.int .i64 0,.int .i64 0,.int .u64 0],.bool false]) w:=fun _=>by kernel_rfl
 go_enter Try.func147,Try.ntmps147
 go_wp2_with fail
 go_ret
 exact ⟨rfl,Below.refl _ _⟩
theorem iface_nil {P:Program} {ms:Array (String × TypeId)} (w:World) (ti tp:TypeId) (v:Value) (hi:P.underlying ti=some (.interface ms)):(binOp .eql ti (.iface tp v) .nilIface).run P w=.ok (.bool false) w:=by
 have h:∀ d:Nat,(Op.equalIn (d+1) ti (.iface tp v) .nilIface).run P w=.ok false w:=fun d=>by simp [Op.equalIn,run_underlying hi]
 simp only [binOp]
 simp [Op.equal,Op.maxDepth,h 9999]
theorem step0_any (gu:Nat) (K A B W:Int) (w:World) (h1:¬ K=1) (h2:¬ K=2) (h3:¬ K=3) (h4:¬ K=4) :
  Calls Try.prog 88 #[.pointer (some ⟨gu,0,none⟩),.agg #[.int .i64 K,.int .i64 A,.int .i64 B,.int .u64 W]] w fun e w'=>e=.returned (.int .i64 1)/\Below w.heap.size w w':=by
 have he:=edit0_any K A B W
 go_enter Try.func88,Try.ntmps88
 go_wp2_with fail
 refine (he _ h1 h2 h3 h4).mono ?_
 rintro e w1 ⟨rfl,hb1⟩
 go_wp2_with fail
 go_ret
 exact ⟨rfl,((Below.refl _ _).alloc (Nat.le_refl _) _).trans (hb1.mono (by simp))⟩
set_option maxRecDepth 100000 in
set_option maxHeartbeats 1000000 in
theorem step1_any (gu:Nat) (A B W c:Int) (wf:Bool) (w:World) (R:World->Prop)
  (hw:∀ wX,Below w.heap.size w wX->Calls Try.prog 228 #[.agg #[.int .i64 1,.int .i64 A,.int .i64 B,.int .u64 W],.pointer (some ⟨gu,0,none⟩)] wX fun e w'=>e=.returned (.bool wf)/\Below wX.heap.size wX w')
  (hr:wf=true->∀ wX,Below w.heap.size w wX->Calls Try.prog 147 #[.pointer (some ⟨gu,0,none⟩),.iface 229 (.agg #[.int .i64 1,.int .i64 A,.int .i64 B,.int .u64 W])] wX fun e w'=>e=.returned (.int .i64 c)/\Below wX.heap.size wX w')
  (ha:wf=true->c=0->∀ wX,Below w.heap.size w wX->Calls Try.prog 227 #[.agg #[.int .i64 1,.int .i64 A,.int .i64 B,.int .u64 W],.pointer (some ⟨gu,0,none⟩)] wX fun e w'=>e=.returned (.tuple #[])/\R w') :
  Calls Try.prog 88 #[.pointer (some ⟨gu,0,none⟩),.agg #[.int .i64 1,.int .i64 A,.int .i64 B,.int .u64 W]] w fun e w'=>e=.returned (.int .i64 (if wf then c else 1))/\(if wf=true/\c=0 then R w' else Below w.heap.size w w'):=by
 have he:=edit1_any A B W
 have heq:∀ w:World,(binOp .eql 206 (.iface 229 (.agg #[.int .i64 1,.int .i64 A,.int .i64 B,.int .u64 W])) .nilIface).run Try.prog w=.ok (.bool false) w:=fun w=>iface_nil w _ _ _ Try.underlying206
 have hm1 : ∀ w : World, (method 206 229 (.agg #[.int .i64 1, .int .i64 A, .int .i64 B, .int .u64 W]) "loop.example/s0047/impl.wellFormed").run Try.prog w = .ok (228, .agg #[.int .i64 1, .int .i64 A, .int .i64 B, .int .u64 W]) w := fun _ => by kernel_rfl
 have hm2 : ∀ w : World, (method 206 229 (.agg #[.int .i64 1, .int .i64 A, .int .i64 B, .int .u64 W]) "loop.example/s0047/impl.apply").run Try.prog w = .ok (227, .agg #[.int .i64 1, .int .i64 A, .int .i64 B, .int .u64 W]) w := fun _ => by kernel_rfl
 obtain ⟨wb,hwb⟩:∃ wb,wb=w.alloc (.cells #[.int .i64 1,.int .i64 A,.int .i64 B,.int .u64 W] 65):=⟨_,rfl⟩
 have hbb:Below w.heap.size w wb:=by rw [hwb]; exact (Below.refl _ _).alloc (Nat.le_refl _) _
 have he1:=he wb
 rw [hwb] at he1
 have HWB:Hid (wb=_):=hwb
 have HBB:Hid (Below w.heap.size w wb):=hbb
 have HW:Hid _:=hw
 have HR:Hid _:=hr
 have HA:Hid _:=ha
 clear hwb hbb hw hr ha he
 cases wf
 ·simp only [Bool.false_eq_true,if_false,false_and]
  go_enter Try.func88,Try.ntmps88
  go_wp2_with fail
  refine he1.mono ?_
  rintro e w1 ⟨rfl,hb1'⟩
  have hb1:Below wb.heap.size wb w1:=by rw [HWB.out]; exact hb1'
  have b1:Below w.heap.size w w1:=HBB.out.trans (hb1.mono HBB.out.size)
  clear hb1 hb1' he1
  go_wp2_with fail
  refine (HW.out w1 b1).mono ?_
  rintro e w2 ⟨rfl,hb2⟩
  go_wp2_with fail
  go_ret
  exact ⟨rfl,b1.trans (hb2.mono b1.size)⟩
 ·simp only [if_true,true_and]
  by_cases hc:c=0
  ·subst hc
   simp only [if_true]
   go_enter Try.func88,Try.ntmps88
   go_wp2_with fail
   refine he1.mono ?_
   rintro e w1 ⟨rfl,hb1'⟩
   have hb1:Below wb.heap.size wb w1:=by rw [HWB.out]; exact hb1'
   have b1:Below w.heap.size w w1:=HBB.out.trans (hb1.mono HBB.out.size)
   clear hb1 hb1' he1
   go_wp2_with fail
   refine (HW.out w1 b1).mono ?_
   rintro e w2 ⟨rfl,hb2⟩
   have b2:Below w.heap.size w w2:=b1.trans (hb2.mono b1.size)
   go_wp2_with fail
   refine (HR.out (by trivial) w2 b2).mono ?_
   rintro e w3 ⟨rfl,hb3⟩
   have b3:Below w.heap.size w w3:=b2.trans (hb3.mono b2.size)
   go_wp2_with fail
   refine (HA.out (by trivial) (by trivial) w3 b3).mono ?_
   rintro e w4 ⟨rfl,hR4⟩
   go_wp2_with fail
   go_ret
   exact ⟨rfl,hR4⟩
  ·have dc:(c != 0)=true:=by simpa using hc
   simp only [hc,if_false]
   clear hc
   go_enter Try.func88,Try.ntmps88
   go_wp2_with fail
   refine he1.mono ?_
   rintro e w1 ⟨rfl,hb1'⟩
   have hb1:Below wb.heap.size wb w1:=by rw [HWB.out]; exact hb1'
   have b1:Below w.heap.size w w1:=HBB.out.trans (hb1.mono HBB.out.size)
   clear hb1 hb1' he1
   go_wp2_with fail
   refine (HW.out w1 b1).mono ?_
   rintro e w2 ⟨rfl,hb2⟩
   have b2:Below w.heap.size w w2:=b1.trans (hb2.mono b1.size)
   go_wp2_with fail
   refine (HR.out (by trivial) w2 b2).mono ?_
   rintro e w3 ⟨rfl,hb3⟩
   have b3:Below w.heap.size w w3:=b2.trans (hb3.mono b2.size)
   go_wp2_with fail
   go_ret
   exact ⟨rfl,b3⟩
set_option maxRecDepth 100000 in
set_option maxHeartbeats 1000000 in
theorem step2_any (gu:Nat) (A B W c:Int) (wf:Bool) (w:World) (R:World->Prop)
  (hw:∀ wX,Below w.heap.size w wX->Calls Try.prog 230 #[.agg #[.int .i64 2,.int .i64 A,.int .i64 B,.int .u64 W],.pointer (some ⟨gu,0,none⟩)] wX fun e w'=>e=.returned (.bool wf)/\Below wX.heap.size wX w')
  (hr:wf=true->∀ wX,Below w.heap.size w wX->Calls Try.prog 147 #[.pointer (some ⟨gu,0,none⟩),.iface 230 (.agg #[.int .i64 2,.int .i64 A,.int .i64 B,.int .u64 W])] wX fun e w'=>e=.returned (.int .i64 c)/\Below wX.heap.size wX w')
  (ha:wf=true->c=0->∀ wX,Below w.heap.size w wX->Calls Try.prog 229 #[.agg #[.int .i64 2,.int .i64 A,.int .i64 B,.int .u64 W],.pointer (some ⟨gu,0,none⟩)] wX fun e w'=>e=.returned (.tuple #[])/\R w') :
  Calls Try.prog 88 #[.pointer (some ⟨gu,0,none⟩),.agg #[.int .i64 2,.int .i64 A,.int .i64 B,.int .u64 W]] w fun e w'=>e=.returned (.int .i64 (if wf then c else 1))/\(if wf=true/\c=0 then R w' else Below w.heap.size w w'):=by
 have he:=edit2_any A B W
 have heq:∀ w:World,(binOp .eql 206 (.iface 230 (.agg #[.int .i64 2,.int .i64 A,.int .i64 B,.int .u64 W])) .nilIface).run Try.prog w=.ok (.bool false) w:=fun w=>iface_nil w _ _ _ Try.underlying206
 have hm1 : ∀ w : World, (method 206 230 (.agg #[.int .i64 2, .int .i64 A, .int .i64 B, .int .u64 W]) "loop.example/s0047/impl.wellFormed").run Try.prog w = .ok (230, .agg #[.int .i64 2, .int .i64 A, .int .i64 B, .int .u64 W]) w := fun _ => by kernel_rfl
 have hm2 : ∀ w : World, (method 206 230 (.agg #[.int .i64 2, .int .i64 A, .int .i64 B, .int .u64 W]) "loop.example/s0047/impl.apply").run Try.prog w = .ok (229, .agg #[.int .i64 2, .int .i64 A, .int .i64 B, .int .u64 W]) w := fun _ => by kernel_rfl
 obtain ⟨wb,hwb⟩:∃ wb,wb=w.alloc (.cells #[.int .i64 2,.int .i64 A,.int .i64 B,.int .u64 W] 65):=⟨_,rfl⟩
 have hbb:Below w.heap.size w wb:=by rw [hwb]; exact (Below.refl _ _).alloc (Nat.le_refl _) _
 have he1:=he wb
 rw [hwb] at he1
 have HWB:Hid (wb=_):=hwb
 have HBB:Hid (Below w.heap.size w wb):=hbb
 have HW:Hid _:=hw
 have HR:Hid _:=hr
 have HA:Hid _:=ha
 clear hwb hbb hw hr ha he
 cases wf
 ·simp only [Bool.false_eq_true,if_false,false_and]
  go_enter Try.func88,Try.ntmps88
  go_wp2_with fail
  refine he1.mono ?_
  rintro e w1 ⟨rfl,hb1'⟩
  have hb1:Below wb.heap.size wb w1:=by rw [HWB.out]; exact hb1'
  have b1:Below w.heap.size w w1:=HBB.out.trans (hb1.mono HBB.out.size)
  clear hb1 hb1' he1
  go_wp2_with fail
  refine (HW.out w1 b1).mono ?_
  rintro e w2 ⟨rfl,hb2⟩
  go_wp2_with fail
  go_ret
  exact ⟨rfl,b1.trans (hb2.mono b1.size)⟩
 ·simp only [if_true,true_and]
  by_cases hc:c=0
  ·subst hc
   simp only [if_true]
   go_enter Try.func88,Try.ntmps88
   go_wp2_with fail
   refine he1.mono ?_
   rintro e w1 ⟨rfl,hb1'⟩
   have hb1:Below wb.heap.size wb w1:=by rw [HWB.out]; exact hb1'
   have b1:Below w.heap.size w w1:=HBB.out.trans (hb1.mono HBB.out.size)
   clear hb1 hb1' he1
   go_wp2_with fail
   refine (HW.out w1 b1).mono ?_
   rintro e w2 ⟨rfl,hb2⟩
   have b2:Below w.heap.size w w2:=b1.trans (hb2.mono b1.size)
   go_wp2_with fail
   refine (HR.out (by trivial) w2 b2).mono ?_
   rintro e w3 ⟨rfl,hb3⟩
   have b3:Below w.heap.size w w3:=b2.trans (hb3.mono b2.size)
   go_wp2_with fail
   refine (HA.out (by trivial) (by trivial) w3 b3).mono ?_
   rintro e w4 ⟨rfl,hR4⟩
   go_wp2_with fail
   go_ret
   exact ⟨rfl,hR4⟩
  ·have dc:(c != 0)=true:=by simpa using hc
   simp only [hc,if_false]
   clear hc
   go_enter Try.func88,Try.ntmps88
   go_wp2_with fail
   refine he1.mono ?_
   rintro e w1 ⟨rfl,hb1'⟩
   have hb1:Below wb.heap.size wb w1:=by rw [HWB.out]; exact hb1'
   have b1:Below w.heap.size w w1:=HBB.out.trans (hb1.mono HBB.out.size)
   clear hb1 hb1' he1
   go_wp2_with fail
   refine (HW.out w1 b1).mono ?_
   rintro e w2 ⟨rfl,hb2⟩
   have b2:Below w.heap.size w w2:=b1.trans (hb2.mono b1.size)
   go_wp2_with fail
   refine (HR.out (by trivial) w2 b2).mono ?_
   rintro e w3 ⟨rfl,hb3⟩
   have b3:Below w.heap.size w w3:=b2.trans (hb3.mono b2.size)
   go_wp2_with fail
   go_ret
   exact ⟨rfl,b3⟩
set_option maxRecDepth 100000 in
set_option maxHeartbeats 1000000 in
theorem step3_any (gu:Nat) (A B W c:Int) (wf:Bool) (w:World) (R:World->Prop)
  (hw:∀ wX,Below w.heap.size w wX->Calls Try.prog 238 #[.agg #[.int .i64 3,.int .i64 A,.int .i64 B,.int .u64 W],.pointer (some ⟨gu,0,none⟩)] wX fun e w'=>e=.returned (.bool wf)/\Below wX.heap.size wX w')
  (hr:wf=true->∀ wX,Below w.heap.size w wX->Calls Try.prog 147 #[.pointer (some ⟨gu,0,none⟩),.iface 231 (.agg #[.int .i64 3,.int .i64 A,.int .i64 B,.int .u64 W])] wX fun e w'=>e=.returned (.int .i64 c)/\Below wX.heap.size wX w')
  (ha:wf=true->c=0->∀ wX,Below w.heap.size w wX->Calls Try.prog 237 #[.agg #[.int .i64 3,.int .i64 A,.int .i64 B,.int .u64 W],.pointer (some ⟨gu,0,none⟩)] wX fun e w'=>e=.returned (.tuple #[])/\R w') :
  Calls Try.prog 88 #[.pointer (some ⟨gu,0,none⟩),.agg #[.int .i64 3,.int .i64 A,.int .i64 B,.int .u64 W]] w fun e w'=>e=.returned (.int .i64 (if wf then c else 1))/\(if wf=true/\c=0 then R w' else Below w.heap.size w w'):=by
 have he:=edit3_any A B W
 have heq:∀ w:World,(binOp .eql 206 (.iface 231 (.agg #[.int .i64 3,.int .i64 A,.int .i64 B,.int .u64 W])) .nilIface).run Try.prog w=.ok (.bool false) w:=fun w=>iface_nil w _ _ _ Try.underlying206
 have hm1 : ∀ w : World, (method 206 231 (.agg #[.int .i64 3, .int .i64 A, .int .i64 B, .int .u64 W]) "loop.example/s0047/impl.wellFormed").run Try.prog w = .ok (238, .agg #[.int .i64 3, .int .i64 A, .int .i64 B, .int .u64 W]) w := fun _ => by kernel_rfl
 have hm2 : ∀ w : World, (method 206 231 (.agg #[.int .i64 3, .int .i64 A, .int .i64 B, .int .u64 W]) "loop.example/s0047/impl.apply").run Try.prog w = .ok (237, .agg #[.int .i64 3, .int .i64 A, .int .i64 B, .int .u64 W]) w := fun _ => by kernel_rfl
 obtain ⟨wb,hwb⟩:∃ wb,wb=w.alloc (.cells #[.int .i64 3,.int .i64 A,.int .i64 B,.int .u64 W] 65):=⟨_,rfl⟩
 have hbb:Below w.heap.size w wb:=by rw [hwb]; exact (Below.refl _ _).alloc (Nat.le_refl _) _
 have he1:=he wb
 rw [hwb] at he1
 have HWB:Hid (wb=_):=hwb
 have HBB:Hid (Below w.heap.size w wb):=hbb
 have HW:Hid _:=hw
 have HR:Hid _:=hr
 have HA:Hid _:=ha
 clear hwb hbb hw hr ha he
 cases wf
 ·simp only [Bool.false_eq_true,if_false,false_and]
  go_enter Try.func88,Try.ntmps88
  go_wp2_with fail
  refine he1.mono ?_
  rintro e w1 ⟨rfl,hb1'⟩
  have hb1:Below wb.heap.size wb w1:=by rw [HWB.out]; exact hb1'
  have b1:Below w.heap.size w w1:=HBB.out.trans (hb1.mono HBB.out.size)
  clear hb1 hb1' he1
  go_wp2_with fail
  refine (HW.out w1 b1).mono ?_
  rintro e w2 ⟨rfl,hb2⟩
  go_wp2_with fail
  go_ret
  exact ⟨rfl,b1.trans (hb2.mono b1.size)⟩
 ·simp only [if_true,true_and]
  by_cases hc:c=0
  ·subst hc
   simp only [if_true]
   go_enter Try.func88,Try.ntmps88
   go_wp2_with fail
   refine he1.mono ?_
   rintro e w1 ⟨rfl,hb1'⟩
   have hb1:Below wb.heap.size wb w1:=by rw [HWB.out]; exact hb1'
   have b1:Below w.heap.size w w1:=HBB.out.trans (hb1.mono HBB.out.size)
   clear hb1 hb1' he1
   go_wp2_with fail
   refine (HW.out w1 b1).mono ?_
   rintro e w2 ⟨rfl,hb2⟩
   have b2:Below w.heap.size w w2:=b1.trans (hb2.mono b1.size)
   go_wp2_with fail
   refine (HR.out (by trivial) w2 b2).mono ?_
   rintro e w3 ⟨rfl,hb3⟩
   have b3:Below w.heap.size w w3:=b2.trans (hb3.mono b2.size)
   go_wp2_with fail
   refine (HA.out (by trivial) (by trivial) w3 b3).mono ?_
   rintro e w4 ⟨rfl,hR4⟩
   go_wp2_with fail
   go_ret
   exact ⟨rfl,hR4⟩
  ·have dc:(c != 0)=true:=by simpa using hc
   simp only [hc,if_false]
   clear hc
   go_enter Try.func88,Try.ntmps88
   go_wp2_with fail
   refine he1.mono ?_
   rintro e w1 ⟨rfl,hb1'⟩
   have hb1:Below wb.heap.size wb w1:=by rw [HWB.out]; exact hb1'
   have b1:Below w.heap.size w w1:=HBB.out.trans (hb1.mono HBB.out.size)
   clear hb1 hb1' he1
   go_wp2_with fail
   refine (HW.out w1 b1).mono ?_
   rintro e w2 ⟨rfl,hb2⟩
   have b2:Below w.heap.size w w2:=b1.trans (hb2.mono b1.size)
   go_wp2_with fail
   refine (HR.out (by trivial) w2 b2).mono ?_
   rintro e w3 ⟨rfl,hb3⟩
   have b3:Below w.heap.size w w3:=b2.trans (hb3.mono b2.size)
   go_wp2_with fail
   go_ret
   exact ⟨rfl,b3⟩
set_option maxRecDepth 100000 in
set_option maxHeartbeats 1000000 in
theorem step4_any (gu:Nat) (A B W c:Int) (wf:Bool) (w:World) (R:World->Prop)
  (hw:∀ wX,Below w.heap.size w wX->Calls Try.prog 241 #[.agg #[.int .i64 4,.int .i64 A,.int .i64 B,.int .u64 W],.pointer (some ⟨gu,0,none⟩)] wX fun e w'=>e=.returned (.bool wf)/\Below wX.heap.size wX w')
  (hr:wf=true->∀ wX,Below w.heap.size w wX->Calls Try.prog 147 #[.pointer (some ⟨gu,0,none⟩),.iface 232 (.agg #[.int .i64 4,.int .i64 A,.int .i64 B,.int .u64 W])] wX fun e w'=>e=.returned (.int .i64 c)/\Below wX.heap.size wX w')
  (ha:wf=true->c=0->∀ wX,Below w.heap.size w wX->Calls Try.prog 240 #[.agg #[.int .i64 4,.int .i64 A,.int .i64 B,.int .u64 W],.pointer (some ⟨gu,0,none⟩)] wX fun e w'=>e=.returned (.tuple #[])/\R w') :
  Calls Try.prog 88 #[.pointer (some ⟨gu,0,none⟩),.agg #[.int .i64 4,.int .i64 A,.int .i64 B,.int .u64 W]] w fun e w'=>e=.returned (.int .i64 (if wf then c else 1))/\(if wf=true/\c=0 then R w' else Below w.heap.size w w'):=by
 have he:=edit4_any A B W
 have heq:∀ w:World,(binOp .eql 206 (.iface 232 (.agg #[.int .i64 4,.int .i64 A,.int .i64 B,.int .u64 W])) .nilIface).run Try.prog w=.ok (.bool false) w:=fun w=>iface_nil w _ _ _ Try.underlying206
 have hm1 : ∀ w : World, (method 206 232 (.agg #[.int .i64 4, .int .i64 A, .int .i64 B, .int .u64 W]) "loop.example/s0047/impl.wellFormed").run Try.prog w = .ok (241, .agg #[.int .i64 4, .int .i64 A, .int .i64 B, .int .u64 W]) w := fun _ => by kernel_rfl
 have hm2 : ∀ w : World, (method 206 232 (.agg #[.int .i64 4, .int .i64 A, .int .i64 B, .int .u64 W]) "loop.example/s0047/impl.apply").run Try.prog w = .ok (240, .agg #[.int .i64 4, .int .i64 A, .int .i64 B, .int .u64 W]) w := fun _ => by kernel_rfl
 obtain ⟨wb,hwb⟩:∃ wb,wb=w.alloc (.cells #[.int .i64 4,.int .i64 A,.int .i64 B,.int .u64 W] 65):=⟨_,rfl⟩
 have hbb:Below w.heap.size w wb:=by rw [hwb]; exact (Below.refl _ _).alloc (Nat.le_refl _) _
 have he1:=he wb
 rw [hwb] at he1
 have HWB:Hid (wb=_):=hwb
 have HBB:Hid (Below w.heap.size w wb):=hbb
 have HW:Hid _:=hw
 have HR:Hid _:=hr
 have HA:Hid _:=ha
 clear hwb hbb hw hr ha he
 cases wf
 ·simp only [Bool.false_eq_true,if_false,false_and]
  go_enter Try.func88,Try.ntmps88
  go_wp2_with fail
  refine he1.mono ?_
  rintro e w1 ⟨rfl,hb1'⟩
  have hb1:Below wb.heap.size wb w1:=by rw [HWB.out]; exact hb1'
  have b1:Below w.heap.size w w1:=HBB.out.trans (hb1.mono HBB.out.size)
  clear hb1 hb1' he1
  go_wp2_with fail
  refine (HW.out w1 b1).mono ?_
  rintro e w2 ⟨rfl,hb2⟩
  go_wp2_with fail
  go_ret
  exact ⟨rfl,b1.trans (hb2.mono b1.size)⟩
 ·simp only [if_true,true_and]
  by_cases hc:c=0
  ·subst hc
   simp only [if_true]
   go_enter Try.func88,Try.ntmps88
   go_wp2_with fail
   refine he1.mono ?_
   rintro e w1 ⟨rfl,hb1'⟩
   have hb1:Below wb.heap.size wb w1:=by rw [HWB.out]; exact hb1'
   have b1:Below w.heap.size w w1:=HBB.out.trans (hb1.mono HBB.out.size)
   clear hb1 hb1' he1
   go_wp2_with fail
   refine (HW.out w1 b1).mono ?_
   rintro e w2 ⟨rfl,hb2⟩
   have b2:Below w.heap.size w w2:=b1.trans (hb2.mono b1.size)
   go_wp2_with fail
   refine (HR.out (by trivial) w2 b2).mono ?_
   rintro e w3 ⟨rfl,hb3⟩
   have b3:Below w.heap.size w w3:=b2.trans (hb3.mono b2.size)
   go_wp2_with fail
   refine (HA.out (by trivial) (by trivial) w3 b3).mono ?_
   rintro e w4 ⟨rfl,hR4⟩
   go_wp2_with fail
   go_ret
   exact ⟨rfl,hR4⟩
  ·have dc:(c != 0)=true:=by simpa using hc
   simp only [hc,if_false]
   clear hc
   go_enter Try.func88,Try.ntmps88
   go_wp2_with fail
   refine he1.mono ?_
   rintro e w1 ⟨rfl,hb1'⟩
   have hb1:Below wb.heap.size wb w1:=by rw [HWB.out]; exact hb1'
   have b1:Below w.heap.size w w1:=HBB.out.trans (hb1.mono HBB.out.size)
   clear hb1 hb1' he1
   go_wp2_with fail
   refine (HW.out w1 b1).mono ?_
   rintro e w2 ⟨rfl,hb2⟩
   have b2:Below w.heap.size w w2:=b1.trans (hb2.mono b1.size)
   go_wp2_with fail
   refine (HR.out (by trivial) w2 b2).mono ?_
   rintro e w3 ⟨rfl,hb3⟩
   have b3:Below w.heap.size w w3:=b2.trans (hb3.mono b2.size)
   go_wp2_with fail
   go_ret
   exact ⟨rfl,b3⟩
end Go.Proofs.Ytnmhkgmmpkjjeaa
