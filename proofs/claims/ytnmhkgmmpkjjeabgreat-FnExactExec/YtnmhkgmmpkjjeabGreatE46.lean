import Derived.Test.YtnmhkgmmpkjjeabGreatE44
import Derived.Test.YtnmhkgmmpkjjeabGreatE45
namespace Go.Proofs.YtnmhkgmmpkjjeabGreat
open ChangeShapes WideShapes ChangeAt RowKit Proofs.Tryz
set_option linter.all false
set_option maxRecDepth 100000
set_option maxHeartbeats 4000000
attribute [local go_sem ↓] wp_at_zero wp_at_succ
theorem Ma(gu:Nat)(A B W c:Int)(w:World)(hg:gu<w.heap.size)(hc:∀wX,Below w.heap.size w wX->Calls prog 143 #[.pointer (some ⟨gu,0,none⟩),.int .i64 A,.int .u64 W] wX fun e w'=>e=.returned (.int .i64 c)/\Below wX.heap.size wX w'):Calls prog 118 #[.pointer (some ⟨gu,0,none⟩),.iface 200 (.agg #[.int .i64 1,.int .i64 A,.int .i64 B,.int .u64 W])] w fun e w'=>e=.returned (.int .i64 c)/\Below w.heap.size w w':=by
 obtain⟨wb,hwb⟩:∃wb,wb=w.alloc (.cells #[.int .i64 1,.int .i64 A,.int .i64 B,.int .u64 W] 200):=⟨_,rfl⟩
 have hbb:Below w.heap.size w wb:=by rw[hwb];exact(Below.refl _ _).alloc (Nat.le_refl _) _
 have h1:=hc wb hbb;rw[hwb] at h1;have HWB:Hid (wb=_):=hwb;have HBB:Hid (Below w.heap.size w wb):=hbb;clear hwb hbb hc;have aswriteEdit:∀w:World,(Instr.typeAssert (.iface 200 (.agg #[.int .i64 1,.int .i64 A,.int .i64 B,.int .u64 W])) 176 200 true).run prog w=.ok (.tuple #[.agg #[.int .i64 1,.int .i64 A,.int .i64 B,.int .u64 W],.bool true]) w:=fun _=>by kernel_rfl
 have asfreeEdit:∀w:World,(Instr.typeAssert (.iface 200 (.agg #[.int .i64 1,.int .i64 A,.int .i64 B,.int .u64 W])) 176 203 true).run prog w=.ok (.tuple #[.agg #[.int .i64 0,.int .i64 0,.int .i64 0,.int .u64 0],.bool false]) w:=fun _=>by kernel_rfl
 go_enter func118,ntmps118
 go_wp2_with fail
 refine h1.mono ?_;rintro e w1 ⟨rfl,hb1⟩;rw[<- HWB.out] at hb1;go_wp2_with fail
 go_ret;exact⟨rfl,HBB.out.trans (hb1.mono HBB.out.size)⟩
theorem Lt(gu:Nat)(A B W c:Int)(w:World)(hg:gu<w.heap.size)(hc:∀wX,Below w.heap.size w wX->Calls prog 144 #[.pointer (some ⟨gu,0,none⟩),.int .i64 A] wX fun e w'=>e=.returned (.int .i64 c)/\Below wX.heap.size wX w'):Calls prog 118 #[.pointer (some ⟨gu,0,none⟩),.iface 203 (.agg #[.int .i64 4,.int .i64 A,.int .i64 B,.int .u64 W])] w fun e w'=>e=.returned (.int .i64 c)/\Below w.heap.size w w':=by
 obtain⟨wb,hwb⟩:∃wb,wb=w.alloc (.cells #[.int .i64 4,.int .i64 A,.int .i64 B,.int .u64 W] 203):=⟨_,rfl⟩
 have hbb:Below w.heap.size w wb:=by rw[hwb];exact(Below.refl _ _).alloc (Nat.le_refl _) _
 have h1:=hc wb hbb;rw[hwb] at h1;have HWB:Hid (wb=_):=hwb;have HBB:Hid (Below w.heap.size w wb):=hbb;clear hwb hbb hc;have aswriteEdit:∀w:World,(Instr.typeAssert (.iface 203 (.agg #[.int .i64 4,.int .i64 A,.int .i64 B,.int .u64 W])) 176 200 true).run prog w=.ok (.tuple #[.agg #[.int .i64 0,.int .i64 0,.int .i64 0,.int .u64 0],.bool false]) w:=fun _=>by kernel_rfl
 have asfreeEdit:∀w:World,(Instr.typeAssert (.iface 203 (.agg #[.int .i64 4,.int .i64 A,.int .i64 B,.int .u64 W])) 176 203 true).run prog w=.ok (.tuple #[.agg #[.int .i64 4,.int .i64 A,.int .i64 B,.int .u64 W],.bool true]) w:=fun _=>by kernel_rfl
 go_enter func118,ntmps118
 go_wp2_with fail
 refine h1.mono ?_;rintro e w1 ⟨rfl,hb1⟩;rw[<- HWB.out] at hb1;go_wp2_with fail
 go_ret;exact⟨rfl,HBB.out.trans (hb1.mono HBB.out.size)⟩
theorem M9(gu:Nat)(A B W:Int)(w:World):Calls prog 118 #[.pointer (some ⟨gu,0,none⟩),.iface 201 (.agg #[.int .i64 2,.int .i64 A,.int .i64 B,.int .u64 W])] w fun e w'=>e=.returned (.int .i64 0)/\Below w.heap.size w w':=by
 have aswriteEdit:∀w:World,(Instr.typeAssert (.iface 201 (.agg #[.int .i64 2,.int .i64 A,.int .i64 B,.int .u64 W])) 176 200 true).run prog w=.ok (.tuple #[.agg #[.int .i64 0,.int .i64 0,.int .i64 0,.int .u64 0],.bool false]) w:=fun _=>by kernel_rfl
 have asfreeEdit:∀w:World,(Instr.typeAssert (.iface 201 (.agg #[.int .i64 2,.int .i64 A,.int .i64 B,.int .u64 W])) 176 203 true).run prog w=.ok (.tuple #[.agg #[.int .i64 0,.int .i64 0,.int .i64 0,.int .u64 0],.bool false]) w:=fun _=>by kernel_rfl
 go_enter func118,ntmps118
 go_wp2_with fail
 go_ret;exact⟨rfl,Below.refl _ _⟩
theorem Lf(gu:Nat)(A B W:Int)(w:World):Calls prog 118 #[.pointer (some ⟨gu,0,none⟩),.iface 202 (.agg #[.int .i64 3,.int .i64 A,.int .i64 B,.int .u64 W])] w fun e w'=>e=.returned (.int .i64 0)/\Below w.heap.size w w':=by
 have aswriteEdit:∀w:World,(Instr.typeAssert (.iface 202 (.agg #[.int .i64 3,.int .i64 A,.int .i64 B,.int .u64 W])) 176 200 true).run prog w=.ok (.tuple #[.agg #[.int .i64 0,.int .i64 0,.int .i64 0,.int .u64 0],.bool false]) w:=fun _=>by kernel_rfl
 have asfreeEdit:∀w:World,(Instr.typeAssert (.iface 202 (.agg #[.int .i64 3,.int .i64 A,.int .i64 B,.int .u64 W])) 176 203 true).run prog w=.ok (.tuple #[.agg #[.int .i64 0,.int .i64 0,.int .i64 0,.int .u64 0],.bool false]) w:=fun _=>by kernel_rfl
 go_enter func118,ntmps118
 go_wp2_with fail
 go_ret;exact⟨rfl,Below.refl _ _⟩
theorem EL{P:Program}{ms:Array (String×TypeId)}(w:World)(ti tp:TypeId)(v:Value)(hi:P.underlying ti=some (.interface ms)):(binOp .eql ti (.iface tp v) .nilIface).run P w=.ok (.bool false) w:=by
 have h:∀d:Nat,(Op.equalIn (d+1) ti (.iface tp v) .nilIface).run P w=.ok false w:=fun d=>by simp[Op.equalIn,run_underlying hi]
 simp only[binOp];simp[Op.equal,Op.maxDepth,h 9999]
theorem Km(gu:Nat)(K A B W:Int)(w:World)(h1:¬K=1)(h2:¬K=2)(h3:¬K=3)(h4:¬K=4):Calls prog 72 #[.pointer (some ⟨gu,0,none⟩),.agg #[.int .i64 K,.int .i64 A,.int .i64 B,.int .u64 W]] w fun e w'=>e=.returned (.int .i64 1)/\Below w.heap.size w w':=by
 have he:=Ki K A B W;go_enter func72,ntmps72
 go_wp2_with fail
 refine(he _ h1 h2 h3 h4).mono ?_;rintro e w1 ⟨rfl,hb1⟩;go_wp2_with fail
 go_ret;exact⟨rfl,((Below.refl _ _).alloc (Nat.le_refl _) _).trans (hb1.mono (by simp))⟩
set_option maxRecDepth 100000 in
theorem Kh(gu:Nat)(A B W c:Int)(wf:Bool)(w:World)(R:World->Prop)(hw:∀wX,Below w.heap.size w wX->Calls prog 183 #[.agg #[.int .i64 1,.int .i64 A,.int .i64 B,.int .u64 W],.pointer (some ⟨gu,0,none⟩)] wX fun e w'=>e=.returned (.bool wf)/\Below wX.heap.size wX w')(hr:wf=true->∀wX,Below w.heap.size w wX->Calls prog 118 #[.pointer (some ⟨gu,0,none⟩),.iface 200 (.agg #[.int .i64 1,.int .i64 A,.int .i64 B,.int .u64 W])] wX fun e w'=>e=.returned (.int .i64 c)/\Below wX.heap.size wX w')(ha:wf=true->c=0->∀wX,Below w.heap.size w wX->Calls prog 182 #[.agg #[.int .i64 1,.int .i64 A,.int .i64 B,.int .u64 W],.pointer (some ⟨gu,0,none⟩)] wX fun e w'=>e=.returned (.tuple #[])/\R w'):Calls prog 72 #[.pointer (some ⟨gu,0,none⟩),.agg #[.int .i64 1,.int .i64 A,.int .i64 B,.int .u64 W]] w fun e w'=>e=.returned (.int .i64 (if wf then c else 1))/\(if wf=true/\c=0 then R w' else Below w.heap.size w w'):=by
 have he:=LV A B W;have heq:∀w:World,(binOp .eql 176 (.iface 200 (.agg #[.int .i64 1,.int .i64 A,.int .i64 B,.int .u64 W])) .nilIface).run prog w=.ok (.bool false) w:=fun w=>EL w _ _ _ underlying176
 have hm1 : ∀ w : World, (method 176 200 (.agg #[.int .i64 1, .int .i64 A, .int .i64 B, .int .u64 W]) "loop.example/s0047/impl.wellFormed").run prog w = .ok (183, .agg #[.int .i64 1, .int .i64 A, .int .i64 B, .int .u64 W]) w := fun _ => by kernel_rfl
 have hm2 : ∀ w : World, (method 176 200 (.agg #[.int .i64 1, .int .i64 A, .int .i64 B, .int .u64 W]) "loop.example/s0047/impl.apply").run prog w = .ok (182, .agg #[.int .i64 1, .int .i64 A, .int .i64 B, .int .u64 W]) w := fun _ => by kernel_rfl
 obtain⟨wb,hwb⟩:∃wb,wb=w.alloc (.cells #[.int .i64 1,.int .i64 A,.int .i64 B,.int .u64 W] 51):=⟨_,rfl⟩
 have hbb:Below w.heap.size w wb:=by rw[hwb];exact(Below.refl _ _).alloc (Nat.le_refl _) _
 have he1:=he wb;rw[hwb] at he1;have HWB:Hid (wb=_):=hwb;have HBB:Hid (Below w.heap.size w wb):=hbb;have HW:Hid _:=hw;have HR:Hid _:=hr;have HA:Hid _:=ha;clear hwb hbb hw hr ha he;cases wf
 ·simp only[Bool.false_eq_true,if_false,false_and];go_enter func72,ntmps72
  go_wp2_with fail
  refine he1.mono ?_;rintro e w1 ⟨rfl,hb1'⟩;have hb1:Below wb.heap.size wb w1:=by rw[HWB.out];exact hb1'
  have b1:Below w.heap.size w w1:=HBB.out.trans (hb1.mono HBB.out.size);clear hb1 hb1' he1;go_wp2_with fail
  refine(HW.out w1 b1).mono ?_;rintro e w2 ⟨rfl,hb2⟩;go_wp2_with fail
  go_ret;exact⟨rfl,b1.trans (hb2.mono b1.size)⟩
 ·simp only[if_true,true_and];by_cases hc:c=0
  ·subst hc;simp only[if_true];(go_enter func72,ntmps72);(go_wp2_with fail);refine he1.mono ?_;rintro e w1 ⟨rfl,hb1'⟩;(have hb1:Below wb.heap.size wb w1:=by rw[HWB.out];exact hb1');have b1:Below w.heap.size w w1:=HBB.out.trans (hb1.mono HBB.out.size);clear hb1 hb1' he1;(go_wp2_with fail);refine(HW.out w1 b1).mono ?_;rintro e w2 ⟨rfl,hb2⟩;have b2:Below w.heap.size w w2:=b1.trans (hb2.mono b1.size);(go_wp2_with fail);refine(HR.out (by trivial) w2 b2).mono ?_;rintro e w3 ⟨rfl,hb3⟩;have b3:Below w.heap.size w w3:=b2.trans (hb3.mono b2.size);(go_wp2_with fail);refine(HA.out (by trivial) (by trivial) w3 b3).mono ?_;rintro e w4 ⟨rfl,hR4⟩;(go_wp2_with fail);go_ret;exact⟨rfl,hR4⟩
  ·(have dc:(c != 0)=true:=by simpa using hc);simp only[hc,if_false];clear hc;(go_enter func72,ntmps72);(go_wp2_with fail);refine he1.mono ?_;rintro e w1 ⟨rfl,hb1'⟩;(have hb1:Below wb.heap.size wb w1:=by rw[HWB.out];exact hb1');have b1:Below w.heap.size w w1:=HBB.out.trans (hb1.mono HBB.out.size);clear hb1 hb1' he1;(go_wp2_with fail);refine(HW.out w1 b1).mono ?_;rintro e w2 ⟨rfl,hb2⟩;have b2:Below w.heap.size w w2:=b1.trans (hb2.mono b1.size);(go_wp2_with fail);refine(HR.out (by trivial) w2 b2).mono ?_;rintro e w3 ⟨rfl,hb3⟩;have b3:Below w.heap.size w w3:=b2.trans (hb3.mono b2.size);(go_wp2_with fail);go_ret;exact⟨rfl,b3⟩
set_option maxRecDepth 100000 in
theorem LJ(gu:Nat)(A B W c:Int)(wf:Bool)(w:World)(R:World->Prop)(hw:∀wX,Below w.heap.size w wX->Calls prog 185 #[.agg #[.int .i64 2,.int .i64 A,.int .i64 B,.int .u64 W],.pointer (some ⟨gu,0,none⟩)] wX fun e w'=>e=.returned (.bool wf)/\Below wX.heap.size wX w')(hr:wf=true->∀wX,Below w.heap.size w wX->Calls prog 118 #[.pointer (some ⟨gu,0,none⟩),.iface 201 (.agg #[.int .i64 2,.int .i64 A,.int .i64 B,.int .u64 W])] wX fun e w'=>e=.returned (.int .i64 c)/\Below wX.heap.size wX w')(ha:wf=true->c=0->∀wX,Below w.heap.size w wX->Calls prog 184 #[.agg #[.int .i64 2,.int .i64 A,.int .i64 B,.int .u64 W],.pointer (some ⟨gu,0,none⟩)] wX fun e w'=>e=.returned (.tuple #[])/\R w'):Calls prog 72 #[.pointer (some ⟨gu,0,none⟩),.agg #[.int .i64 2,.int .i64 A,.int .i64 B,.int .u64 W]] w fun e w'=>e=.returned (.int .i64 (if wf then c else 1))/\(if wf=true/\c=0 then R w' else Below w.heap.size w w'):=by
 have he:=Kw A B W;have heq:∀w:World,(binOp .eql 176 (.iface 201 (.agg #[.int .i64 2,.int .i64 A,.int .i64 B,.int .u64 W])) .nilIface).run prog w=.ok (.bool false) w:=fun w=>EL w _ _ _ underlying176
 have hm1 : ∀ w : World, (method 176 201 (.agg #[.int .i64 2, .int .i64 A, .int .i64 B, .int .u64 W]) "loop.example/s0047/impl.wellFormed").run prog w = .ok (185, .agg #[.int .i64 2, .int .i64 A, .int .i64 B, .int .u64 W]) w := fun _ => by kernel_rfl
 have hm2 : ∀ w : World, (method 176 201 (.agg #[.int .i64 2, .int .i64 A, .int .i64 B, .int .u64 W]) "loop.example/s0047/impl.apply").run prog w = .ok (184, .agg #[.int .i64 2, .int .i64 A, .int .i64 B, .int .u64 W]) w := fun _ => by kernel_rfl
 obtain⟨wb,hwb⟩:∃wb,wb=w.alloc (.cells #[.int .i64 2,.int .i64 A,.int .i64 B,.int .u64 W] 51):=⟨_,rfl⟩
 have hbb:Below w.heap.size w wb:=by rw[hwb];exact(Below.refl _ _).alloc (Nat.le_refl _) _
 have he1:=he wb;rw[hwb] at he1;have HWB:Hid (wb=_):=hwb;have HBB:Hid (Below w.heap.size w wb):=hbb;have HW:Hid _:=hw;have HR:Hid _:=hr;have HA:Hid _:=ha;clear hwb hbb hw hr ha he;cases wf
 ·simp only[Bool.false_eq_true,if_false,false_and];go_enter func72,ntmps72
  go_wp2_with fail
  refine he1.mono ?_;rintro e w1 ⟨rfl,hb1'⟩;have hb1:Below wb.heap.size wb w1:=by rw[HWB.out];exact hb1'
  have b1:Below w.heap.size w w1:=HBB.out.trans (hb1.mono HBB.out.size);clear hb1 hb1' he1;go_wp2_with fail
  refine(HW.out w1 b1).mono ?_;rintro e w2 ⟨rfl,hb2⟩;go_wp2_with fail
  go_ret;exact⟨rfl,b1.trans (hb2.mono b1.size)⟩
 ·simp only[if_true,true_and];by_cases hc:c=0
  ·subst hc;simp only[if_true];(go_enter func72,ntmps72);(go_wp2_with fail);refine he1.mono ?_;rintro e w1 ⟨rfl,hb1'⟩;(have hb1:Below wb.heap.size wb w1:=by rw[HWB.out];exact hb1');have b1:Below w.heap.size w w1:=HBB.out.trans (hb1.mono HBB.out.size);clear hb1 hb1' he1;(go_wp2_with fail);refine(HW.out w1 b1).mono ?_;rintro e w2 ⟨rfl,hb2⟩;have b2:Below w.heap.size w w2:=b1.trans (hb2.mono b1.size);(go_wp2_with fail);refine(HR.out (by trivial) w2 b2).mono ?_;rintro e w3 ⟨rfl,hb3⟩;have b3:Below w.heap.size w w3:=b2.trans (hb3.mono b2.size);(go_wp2_with fail);refine(HA.out (by trivial) (by trivial) w3 b3).mono ?_;rintro e w4 ⟨rfl,hR4⟩;(go_wp2_with fail);go_ret;exact⟨rfl,hR4⟩
  ·(have dc:(c != 0)=true:=by simpa using hc);simp only[hc,if_false];clear hc;(go_enter func72,ntmps72);(go_wp2_with fail);refine he1.mono ?_;rintro e w1 ⟨rfl,hb1'⟩;(have hb1:Below wb.heap.size wb w1:=by rw[HWB.out];exact hb1');have b1:Below w.heap.size w w1:=HBB.out.trans (hb1.mono HBB.out.size);clear hb1 hb1' he1;(go_wp2_with fail);refine(HW.out w1 b1).mono ?_;rintro e w2 ⟨rfl,hb2⟩;have b2:Below w.heap.size w w2:=b1.trans (hb2.mono b1.size);(go_wp2_with fail);refine(HR.out (by trivial) w2 b2).mono ?_;rintro e w3 ⟨rfl,hb3⟩;have b3:Below w.heap.size w w3:=b2.trans (hb3.mono b2.size);(go_wp2_with fail);go_ret;exact⟨rfl,b3⟩
set_option maxRecDepth 100000 in
theorem LM(gu:Nat)(A B W c:Int)(wf:Bool)(w:World)(R:World->Prop)(hw:∀wX,Below w.heap.size w wX->Calls prog 193 #[.agg #[.int .i64 3,.int .i64 A,.int .i64 B,.int .u64 W],.pointer (some ⟨gu,0,none⟩)] wX fun e w'=>e=.returned (.bool wf)/\Below wX.heap.size wX w')(hr:wf=true->∀wX,Below w.heap.size w wX->Calls prog 118 #[.pointer (some ⟨gu,0,none⟩),.iface 202 (.agg #[.int .i64 3,.int .i64 A,.int .i64 B,.int .u64 W])] wX fun e w'=>e=.returned (.int .i64 c)/\Below wX.heap.size wX w')(ha:wf=true->c=0->∀wX,Below w.heap.size w wX->Calls prog 192 #[.agg #[.int .i64 3,.int .i64 A,.int .i64 B,.int .u64 W],.pointer (some ⟨gu,0,none⟩)] wX fun e w'=>e=.returned (.tuple #[])/\R w'):Calls prog 72 #[.pointer (some ⟨gu,0,none⟩),.agg #[.int .i64 3,.int .i64 A,.int .i64 B,.int .u64 W]] w fun e w'=>e=.returned (.int .i64 (if wf then c else 1))/\(if wf=true/\c=0 then R w' else Below w.heap.size w w'):=by
 have he:=LE A B W;have heq:∀w:World,(binOp .eql 176 (.iface 202 (.agg #[.int .i64 3,.int .i64 A,.int .i64 B,.int .u64 W])) .nilIface).run prog w=.ok (.bool false) w:=fun w=>EL w _ _ _ underlying176
 have hm1 : ∀ w : World, (method 176 202 (.agg #[.int .i64 3, .int .i64 A, .int .i64 B, .int .u64 W]) "loop.example/s0047/impl.wellFormed").run prog w = .ok (193, .agg #[.int .i64 3, .int .i64 A, .int .i64 B, .int .u64 W]) w := fun _ => by kernel_rfl
 have hm2 : ∀ w : World, (method 176 202 (.agg #[.int .i64 3, .int .i64 A, .int .i64 B, .int .u64 W]) "loop.example/s0047/impl.apply").run prog w = .ok (192, .agg #[.int .i64 3, .int .i64 A, .int .i64 B, .int .u64 W]) w := fun _ => by kernel_rfl
 obtain⟨wb,hwb⟩:∃wb,wb=w.alloc (.cells #[.int .i64 3,.int .i64 A,.int .i64 B,.int .u64 W] 51):=⟨_,rfl⟩
 have hbb:Below w.heap.size w wb:=by rw[hwb];exact(Below.refl _ _).alloc (Nat.le_refl _) _
 have he1:=he wb;rw[hwb] at he1;have HWB:Hid (wb=_):=hwb;have HBB:Hid (Below w.heap.size w wb):=hbb;have HW:Hid _:=hw;have HR:Hid _:=hr;have HA:Hid _:=ha;clear hwb hbb hw hr ha he;cases wf
 ·simp only[Bool.false_eq_true,if_false,false_and];go_enter func72,ntmps72
  go_wp2_with fail
  refine he1.mono ?_;rintro e w1 ⟨rfl,hb1'⟩;have hb1:Below wb.heap.size wb w1:=by rw[HWB.out];exact hb1'
  have b1:Below w.heap.size w w1:=HBB.out.trans (hb1.mono HBB.out.size);clear hb1 hb1' he1;go_wp2_with fail
  refine(HW.out w1 b1).mono ?_;rintro e w2 ⟨rfl,hb2⟩;go_wp2_with fail
  go_ret;exact⟨rfl,b1.trans (hb2.mono b1.size)⟩
 ·simp only[if_true,true_and];by_cases hc:c=0
  ·subst hc;simp only[if_true];(go_enter func72,ntmps72);(go_wp2_with fail);refine he1.mono ?_;rintro e w1 ⟨rfl,hb1'⟩;(have hb1:Below wb.heap.size wb w1:=by rw[HWB.out];exact hb1');have b1:Below w.heap.size w w1:=HBB.out.trans (hb1.mono HBB.out.size);clear hb1 hb1' he1;(go_wp2_with fail);refine(HW.out w1 b1).mono ?_;rintro e w2 ⟨rfl,hb2⟩;have b2:Below w.heap.size w w2:=b1.trans (hb2.mono b1.size);(go_wp2_with fail);refine(HR.out (by trivial) w2 b2).mono ?_;rintro e w3 ⟨rfl,hb3⟩;have b3:Below w.heap.size w w3:=b2.trans (hb3.mono b2.size);(go_wp2_with fail);refine(HA.out (by trivial) (by trivial) w3 b3).mono ?_;rintro e w4 ⟨rfl,hR4⟩;(go_wp2_with fail);go_ret;exact⟨rfl,hR4⟩
  ·(have dc:(c != 0)=true:=by simpa using hc);simp only[hc,if_false];clear hc;(go_enter func72,ntmps72);(go_wp2_with fail);refine he1.mono ?_;rintro e w1 ⟨rfl,hb1'⟩;(have hb1:Below wb.heap.size wb w1:=by rw[HWB.out];exact hb1');have b1:Below w.heap.size w w1:=HBB.out.trans (hb1.mono HBB.out.size);clear hb1 hb1' he1;(go_wp2_with fail);refine(HW.out w1 b1).mono ?_;rintro e w2 ⟨rfl,hb2⟩;have b2:Below w.heap.size w w2:=b1.trans (hb2.mono b1.size);(go_wp2_with fail);refine(HR.out (by trivial) w2 b2).mono ?_;rintro e w3 ⟨rfl,hb3⟩;have b3:Below w.heap.size w w3:=b2.trans (hb3.mono b2.size);(go_wp2_with fail);go_ret;exact⟨rfl,b3⟩
set_option maxRecDepth 100000 in
theorem LG(gu:Nat)(A B W c:Int)(wf:Bool)(w:World)(R:World->Prop)(hw:∀wX,Below w.heap.size w wX->Calls prog 196 #[.agg #[.int .i64 4,.int .i64 A,.int .i64 B,.int .u64 W],.pointer (some ⟨gu,0,none⟩)] wX fun e w'=>e=.returned (.bool wf)/\Below wX.heap.size wX w')(hr:wf=true->∀wX,Below w.heap.size w wX->Calls prog 118 #[.pointer (some ⟨gu,0,none⟩),.iface 203 (.agg #[.int .i64 4,.int .i64 A,.int .i64 B,.int .u64 W])] wX fun e w'=>e=.returned (.int .i64 c)/\Below wX.heap.size wX w')(ha:wf=true->c=0->∀wX,Below w.heap.size w wX->Calls prog 195 #[.agg #[.int .i64 4,.int .i64 A,.int .i64 B,.int .u64 W],.pointer (some ⟨gu,0,none⟩)] wX fun e w'=>e=.returned (.tuple #[])/\R w'):Calls prog 72 #[.pointer (some ⟨gu,0,none⟩),.agg #[.int .i64 4,.int .i64 A,.int .i64 B,.int .u64 W]] w fun e w'=>e=.returned (.int .i64 (if wf then c else 1))/\(if wf=true/\c=0 then R w' else Below w.heap.size w w'):=by
 have he:=LK A B W;have heq:∀w:World,(binOp .eql 176 (.iface 203 (.agg #[.int .i64 4,.int .i64 A,.int .i64 B,.int .u64 W])) .nilIface).run prog w=.ok (.bool false) w:=fun w=>EL w _ _ _ underlying176
 have hm1 : ∀ w : World, (method 176 203 (.agg #[.int .i64 4, .int .i64 A, .int .i64 B, .int .u64 W]) "loop.example/s0047/impl.wellFormed").run prog w = .ok (196, .agg #[.int .i64 4, .int .i64 A, .int .i64 B, .int .u64 W]) w := fun _ => by kernel_rfl
 have hm2 : ∀ w : World, (method 176 203 (.agg #[.int .i64 4, .int .i64 A, .int .i64 B, .int .u64 W]) "loop.example/s0047/impl.apply").run prog w = .ok (195, .agg #[.int .i64 4, .int .i64 A, .int .i64 B, .int .u64 W]) w := fun _ => by kernel_rfl
 obtain⟨wb,hwb⟩:∃wb,wb=w.alloc (.cells #[.int .i64 4,.int .i64 A,.int .i64 B,.int .u64 W] 51):=⟨_,rfl⟩
 have hbb:Below w.heap.size w wb:=by rw[hwb];exact(Below.refl _ _).alloc (Nat.le_refl _) _
 have he1:=he wb;rw[hwb] at he1;have HWB:Hid (wb=_):=hwb;have HBB:Hid (Below w.heap.size w wb):=hbb;have HW:Hid _:=hw;have HR:Hid _:=hr;have HA:Hid _:=ha;clear hwb hbb hw hr ha he;cases wf
 ·simp only[Bool.false_eq_true,if_false,false_and];go_enter func72,ntmps72
  go_wp2_with fail
  refine he1.mono ?_;rintro e w1 ⟨rfl,hb1'⟩;have hb1:Below wb.heap.size wb w1:=by rw[HWB.out];exact hb1'
  have b1:Below w.heap.size w w1:=HBB.out.trans (hb1.mono HBB.out.size);clear hb1 hb1' he1;go_wp2_with fail
  refine(HW.out w1 b1).mono ?_;rintro e w2 ⟨rfl,hb2⟩;go_wp2_with fail
  go_ret;exact⟨rfl,b1.trans (hb2.mono b1.size)⟩
 ·simp only[if_true,true_and];by_cases hc:c=0
  ·subst hc;simp only[if_true];(go_enter func72,ntmps72);(go_wp2_with fail);refine he1.mono ?_;rintro e w1 ⟨rfl,hb1'⟩;(have hb1:Below wb.heap.size wb w1:=by rw[HWB.out];exact hb1');have b1:Below w.heap.size w w1:=HBB.out.trans (hb1.mono HBB.out.size);clear hb1 hb1' he1;(go_wp2_with fail);refine(HW.out w1 b1).mono ?_;rintro e w2 ⟨rfl,hb2⟩;have b2:Below w.heap.size w w2:=b1.trans (hb2.mono b1.size);(go_wp2_with fail);refine(HR.out (by trivial) w2 b2).mono ?_;rintro e w3 ⟨rfl,hb3⟩;have b3:Below w.heap.size w w3:=b2.trans (hb3.mono b2.size);(go_wp2_with fail);refine(HA.out (by trivial) (by trivial) w3 b3).mono ?_;rintro e w4 ⟨rfl,hR4⟩;(go_wp2_with fail);go_ret;exact⟨rfl,hR4⟩
  ·(have dc:(c != 0)=true:=by simpa using hc);simp only[hc,if_false];clear hc;(go_enter func72,ntmps72);(go_wp2_with fail);refine he1.mono ?_;rintro e w1 ⟨rfl,hb1'⟩;(have hb1:Below wb.heap.size wb w1:=by rw[HWB.out];exact hb1');have b1:Below w.heap.size w w1:=HBB.out.trans (hb1.mono HBB.out.size);clear hb1 hb1' he1;(go_wp2_with fail);refine(HW.out w1 b1).mono ?_;rintro e w2 ⟨rfl,hb2⟩;have b2:Below w.heap.size w w2:=b1.trans (hb2.mono b1.size);(go_wp2_with fail);refine(HR.out (by trivial) w2 b2).mono ?_;rintro e w3 ⟨rfl,hb3⟩;have b3:Below w.heap.size w w3:=b2.trans (hb3.mono b2.size);(go_wp2_with fail);go_ret;exact⟨rfl,b3⟩
end Go.Proofs.YtnmhkgmmpkjjeabGreat
