import Derived.Test.YtnmhkgmmpkjjeaaGreatM44
namespace Go.Proofs.YtnmhkgmmpkjjeaaGreat
open ChangeShapes WideShapes ChangeAt RowKit Proofs.Tryz
set_option linter.all false
set_option maxRecDepth 100000
set_option maxHeartbeats 4000000
attribute [local go_sem ↓] wp_at_zero wp_at_succ
theorem Sh(gu:Nat)(A B W c:Int)(w:World)(hg:gu<w.heap.size)(hc:∀wX,Bl w wX->Calls prog 237 #[.pointer (some ⟨gu,0,none⟩),.int .i64 A,.int .u64 W] wX (AM wX (.int .i64 c))):Calls prog 218 #[.pointer (some ⟨gu,0,none⟩),.iface 324 (.agg #[.int .i64 1,.int .i64 A,.int .i64 B,.int .u64 W])] w (AM w (.int .i64 c)):=by
 obtain⟨wb,hwb⟩:∃wb,wb=w.alloc (.cells #[.int .i64 1,.int .i64 A,.int .i64 B,.int .u64 W] 324):=⟨_,rfl⟩
 have hbb:Bl w wb:=by rw[hwb];exact AO
 have h1:=hc wb hbb;rw[hwb] at h1;have HWB:=A5 hwb;have HBB:=A5 hbb;clear hwb hbb hc;have aswriteEdit:∀w:World,(Instr.typeAssert (.iface 324 (.agg #[.int .i64 1,.int .i64 A,.int .i64 B,.int .u64 W])) 303 324 true).run prog w=.ok (.tuple #[.agg #[.int .i64 1,.int .i64 A,.int .i64 B,.int .u64 W],.bool true]) w:=fun _=>by kernel_rfl
 go_enter func218,ntmps218
 go_wp2_with fail
 refine h1.mono ?_;rintro e w1 ⟨rfl,hb1⟩;rw[<- HWB.out] at hb1;go_wp2_with fail
 go_ret;exact⟨rfl,Ab HBB.out hb1⟩
theorem Sc(gu:Nat)(A B W c:Int)(w:World)(hg:gu<w.heap.size)(hc:∀wX,Bl w wX->Calls prog 238 #[.pointer (some ⟨gu,0,none⟩),.int .i64 A] wX (AM wX (.int .i64 c))):Calls prog 218 #[.pointer (some ⟨gu,0,none⟩),.iface 327 (.agg #[.int .i64 4,.int .i64 A,.int .i64 B,.int .u64 W])] w (AM w (.int .i64 c)):=by
 obtain⟨wb,hwb⟩:∃wb,wb=w.alloc (.cells #[.int .i64 4,.int .i64 A,.int .i64 B,.int .u64 W] 327):=⟨_,rfl⟩
 have hbb:Bl w wb:=by rw[hwb];exact AO
 have h1:=hc wb hbb;rw[hwb] at h1;have HWB:=A5 hwb;have HBB:=A5 hbb;clear hwb hbb hc;have aswriteEdit:∀w:World,(Instr.typeAssert (.iface 327 (.agg #[.int .i64 4,.int .i64 A,.int .i64 B,.int .u64 W])) 303 324 true).run prog w=.ok (.tuple #[.agg #[.int .i64 0,.int .i64 0,.int .i64 0,.int .u64 0],.bool false]) w:=fun _=>by kernel_rfl
 have asfreeEdit:∀w:World,(Instr.typeAssert (.iface 327 (.agg #[.int .i64 4,.int .i64 A,.int .i64 B,.int .u64 W])) 303 327 true).run prog w=.ok (.tuple #[.agg #[.int .i64 4,.int .i64 A,.int .i64 B,.int .u64 W],.bool true]) w:=fun _=>by kernel_rfl
 go_enter func218,ntmps218
 go_wp2_with fail
 refine h1.mono ?_;rintro e w1 ⟨rfl,hb1⟩;rw[<- HWB.out] at hb1;go_wp2_with fail
 go_ret;exact⟨rfl,Ab HBB.out hb1⟩
theorem SZ(gu:Nat)(A B W:Int)(w:World):Calls prog 218 #[.pointer (some ⟨gu,0,none⟩),.iface 325 (.agg #[.int .i64 2,.int .i64 A,.int .i64 B,.int .u64 W])] w (AM w (.int .i64 0)):=by
 have aswriteEdit:∀w:World,(Instr.typeAssert (.iface 325 (.agg #[.int .i64 2,.int .i64 A,.int .i64 B,.int .u64 W])) 303 324 true).run prog w=.ok (.tuple #[.agg #[.int .i64 0,.int .i64 0,.int .i64 0,.int .u64 0],.bool false]) w:=fun _=>by kernel_rfl
 have asfreeEdit:∀w:World,(Instr.typeAssert (.iface 325 (.agg #[.int .i64 2,.int .i64 A,.int .i64 B,.int .u64 W])) 303 327 true).run prog w=.ok (.tuple #[.agg #[.int .i64 0,.int .i64 0,.int .i64 0,.int .u64 0],.bool false]) w:=fun _=>by kernel_rfl
 go_enter func218,ntmps218
 go_wp2_with fail
 go_ret;exact⟨rfl,AH⟩
theorem T4(gu:Nat)(A B W:Int)(w:World):Calls prog 218 #[.pointer (some ⟨gu,0,none⟩),.iface 326 (.agg #[.int .i64 3,.int .i64 A,.int .i64 B,.int .u64 W])] w (AM w (.int .i64 0)):=by
 have aswriteEdit:∀w:World,(Instr.typeAssert (.iface 326 (.agg #[.int .i64 3,.int .i64 A,.int .i64 B,.int .u64 W])) 303 324 true).run prog w=.ok (.tuple #[.agg #[.int .i64 0,.int .i64 0,.int .i64 0,.int .u64 0],.bool false]) w:=fun _=>by kernel_rfl
 have asfreeEdit:∀w:World,(Instr.typeAssert (.iface 326 (.agg #[.int .i64 3,.int .i64 A,.int .i64 B,.int .u64 W])) 303 327 true).run prog w=.ok (.tuple #[.agg #[.int .i64 0,.int .i64 0,.int .i64 0,.int .u64 0],.bool false]) w:=fun _=>by kernel_rfl
 go_enter func218,ntmps218
 go_wp2_with fail
 go_ret;exact⟨rfl,AH⟩
theorem GK{P:Program}{ms:Array (String×TypeId)}(w:World)(ti tp:TypeId)(v:Value)(hi:P.underlying ti=some (.interface ms)):(binOp .eql ti (.iface tp v) .nilIface).run P w=.ok (.bool false) w:=by
 have h:∀d:Nat,(Op.equalIn (d+1) ti (.iface tp v) .nilIface).run P w=.ok false w:=fun d=>by simp[Op.equalIn,run_underlying hi]
 simp only[binOp];simp[Op.equal,Op.maxDepth,h 9999]
theorem UF(gu:Nat)(A B W:Int)(w:World)(R:World->Prop)(hw:∀wX,Bl w wX->Calls prog 295 #[.agg #[.int .i64 1,.int .i64 A,.int .i64 B,.int .u64 W],.pointer (some ⟨gu,0,none⟩)] wX (AM wX (.bool true)))(hr:∀wX,Bl w wX->Calls prog 218 #[.pointer (some ⟨gu,0,none⟩),.iface 324 (.agg #[.int .i64 1,.int .i64 A,.int .i64 B,.int .u64 W])] wX (AM wX (.int .i64 0)))(ha:∀wX,Bl w wX->Calls prog 294 #[.agg #[.int .i64 1,.int .i64 A,.int .i64 B,.int .u64 W],.pointer (some ⟨gu,0,none⟩)] wX fun e w'=>e=.returned (.tuple #[])/\R w'):Calls prog 172 #[.pointer (some ⟨gu,0,none⟩),.agg #[.int .i64 1,.int .i64 A,.int .i64 B,.int .u64 W]] w fun e w'=>e=.returned (.int .i64 0)/\R w':=by
 have he:=SY A B W;have heq:∀w:World,(binOp .eql 303 (.iface 324 (.agg #[.int .i64 1,.int .i64 A,.int .i64 B,.int .u64 W])) .nilIface).run prog w=.ok (.bool false) w:=fun w=>GK w _ _ _ underlying303
 obtain⟨wb,hwb⟩:∃wb,wb=w.alloc (.cells #[.int .i64 1,.int .i64 A,.int .i64 B,.int .u64 W] 77):=⟨_,rfl⟩
 have hbb:Bl w wb:=by rw[hwb];exact AO
 have he1:=he wb;rw[hwb] at he1;have HWB:=A5 hwb;have HBB:=A5 hbb;have HW:=A5 hw;have HR:=A5 hr;have HA:=A5 ha;clear hwb hbb hw hr ha he;go_enter func172,ntmps172
 go_wp2_with fail
 refine he1.mono ?_;rintro e w1 ⟨rfl,hb1'⟩;have hb1:Bl wb w1:=by rw[HWB.out];exact hb1'
 have b1:Bl w w1:=Ab HBB.out hb1;clear hb1 hb1' he1;go_wp2_with fail
 refine(HW.out w1 b1).mono ?_;rintro e w2 ⟨rfl,hb2⟩;have b2:Bl w w2:=Ab b1 hb2;go_wp2_with fail
 refine(HR.out w2 b2).mono ?_;rintro e w3 ⟨rfl,hb3⟩;have b3:Bl w w3:=Ab b2 hb3;go_wp2_with fail
 refine(HA.out w3 b3).mono ?_;rintro e w4 ⟨rfl,hR4⟩;go_wp2_with fail
 go_ret;exact⟨rfl,hR4⟩
theorem UR(gu:Nat)(A B W:Int)(w:World)(R:World->Prop)(hw:∀wX,Bl w wX->Calls prog 297 #[.agg #[.int .i64 2,.int .i64 A,.int .i64 B,.int .u64 W],.pointer (some ⟨gu,0,none⟩)] wX (AM wX (.bool true)))(hr:∀wX,Bl w wX->Calls prog 218 #[.pointer (some ⟨gu,0,none⟩),.iface 325 (.agg #[.int .i64 2,.int .i64 A,.int .i64 B,.int .u64 W])] wX (AM wX (.int .i64 0)))(ha:∀wX,Bl w wX->Calls prog 296 #[.agg #[.int .i64 2,.int .i64 A,.int .i64 B,.int .u64 W],.pointer (some ⟨gu,0,none⟩)] wX fun e w'=>e=.returned (.tuple #[])/\R w'):Calls prog 172 #[.pointer (some ⟨gu,0,none⟩),.agg #[.int .i64 2,.int .i64 A,.int .i64 B,.int .u64 W]] w fun e w'=>e=.returned (.int .i64 0)/\R w':=by
 have he:=TM A B W;have heq:∀w:World,(binOp .eql 303 (.iface 325 (.agg #[.int .i64 2,.int .i64 A,.int .i64 B,.int .u64 W])) .nilIface).run prog w=.ok (.bool false) w:=fun w=>GK w _ _ _ underlying303
 obtain⟨wb,hwb⟩:∃wb,wb=w.alloc (.cells #[.int .i64 2,.int .i64 A,.int .i64 B,.int .u64 W] 77):=⟨_,rfl⟩
 have hbb:Bl w wb:=by rw[hwb];exact AO
 have he1:=he wb;rw[hwb] at he1;have HWB:=A5 hwb;have HBB:=A5 hbb;have HW:=A5 hw;have HR:=A5 hr;have HA:=A5 ha;clear hwb hbb hw hr ha he;go_enter func172,ntmps172
 go_wp2_with fail
 refine he1.mono ?_;rintro e w1 ⟨rfl,hb1'⟩;have hb1:Bl wb w1:=by rw[HWB.out];exact hb1'
 have b1:Bl w w1:=Ab HBB.out hb1;clear hb1 hb1' he1;go_wp2_with fail
 refine(HW.out w1 b1).mono ?_;rintro e w2 ⟨rfl,hb2⟩;have b2:Bl w w2:=Ab b1 hb2;go_wp2_with fail
 refine(HR.out w2 b2).mono ?_;rintro e w3 ⟨rfl,hb3⟩;have b3:Bl w w3:=Ab b2 hb3;go_wp2_with fail
 refine(HA.out w3 b3).mono ?_;rintro e w4 ⟨rfl,hR4⟩;go_wp2_with fail
 go_ret;exact⟨rfl,hR4⟩
theorem Uq(gu:Nat)(A B W:Int)(w:World)(R:World->Prop)(hw:∀wX,Bl w wX->Calls prog 305 #[.agg #[.int .i64 3,.int .i64 A,.int .i64 B,.int .u64 W],.pointer (some ⟨gu,0,none⟩)] wX (AM wX (.bool true)))(hr:∀wX,Bl w wX->Calls prog 218 #[.pointer (some ⟨gu,0,none⟩),.iface 326 (.agg #[.int .i64 3,.int .i64 A,.int .i64 B,.int .u64 W])] wX (AM wX (.int .i64 0)))(ha:∀wX,Bl w wX->Calls prog 304 #[.agg #[.int .i64 3,.int .i64 A,.int .i64 B,.int .u64 W],.pointer (some ⟨gu,0,none⟩)] wX fun e w'=>e=.returned (.tuple #[])/\R w'):Calls prog 172 #[.pointer (some ⟨gu,0,none⟩),.agg #[.int .i64 3,.int .i64 A,.int .i64 B,.int .u64 W]] w fun e w'=>e=.returned (.int .i64 0)/\R w':=by
 have he:=Si A B W;have heq:∀w:World,(binOp .eql 303 (.iface 326 (.agg #[.int .i64 3,.int .i64 A,.int .i64 B,.int .u64 W])) .nilIface).run prog w=.ok (.bool false) w:=fun w=>GK w _ _ _ underlying303
 obtain⟨wb,hwb⟩:∃wb,wb=w.alloc (.cells #[.int .i64 3,.int .i64 A,.int .i64 B,.int .u64 W] 77):=⟨_,rfl⟩
 have hbb:Bl w wb:=by rw[hwb];exact AO
 have he1:=he wb;rw[hwb] at he1;have HWB:=A5 hwb;have HBB:=A5 hbb;have HW:=A5 hw;have HR:=A5 hr;have HA:=A5 ha;clear hwb hbb hw hr ha he;go_enter func172,ntmps172
 go_wp2_with fail
 refine he1.mono ?_;rintro e w1 ⟨rfl,hb1'⟩;have hb1:Bl wb w1:=by rw[HWB.out];exact hb1'
 have b1:Bl w w1:=Ab HBB.out hb1;clear hb1 hb1' he1;go_wp2_with fail
 refine(HW.out w1 b1).mono ?_;rintro e w2 ⟨rfl,hb2⟩;have b2:Bl w w2:=Ab b1 hb2;go_wp2_with fail
 refine(HR.out w2 b2).mono ?_;rintro e w3 ⟨rfl,hb3⟩;have b3:Bl w w3:=Ab b2 hb3;go_wp2_with fail
 refine(HA.out w3 b3).mono ?_;rintro e w4 ⟨rfl,hR4⟩;go_wp2_with fail
 go_ret;exact⟨rfl,hR4⟩
theorem VM(gu:Nat)(A B W:Int)(w:World)(R:World->Prop)(hw:∀wX,Bl w wX->Calls prog 308 #[.agg #[.int .i64 4,.int .i64 A,.int .i64 B,.int .u64 W],.pointer (some ⟨gu,0,none⟩)] wX (AM wX (.bool true)))(hr:∀wX,Bl w wX->Calls prog 218 #[.pointer (some ⟨gu,0,none⟩),.iface 327 (.agg #[.int .i64 4,.int .i64 A,.int .i64 B,.int .u64 W])] wX (AM wX (.int .i64 0)))(ha:∀wX,Bl w wX->Calls prog 307 #[.agg #[.int .i64 4,.int .i64 A,.int .i64 B,.int .u64 W],.pointer (some ⟨gu,0,none⟩)] wX fun e w'=>e=.returned (.tuple #[])/\R w'):Calls prog 172 #[.pointer (some ⟨gu,0,none⟩),.agg #[.int .i64 4,.int .i64 A,.int .i64 B,.int .u64 W]] w fun e w'=>e=.returned (.int .i64 0)/\R w':=by
 have he:=Ss A B W;have heq:∀w:World,(binOp .eql 303 (.iface 327 (.agg #[.int .i64 4,.int .i64 A,.int .i64 B,.int .u64 W])) .nilIface).run prog w=.ok (.bool false) w:=fun w=>GK w _ _ _ underlying303
 obtain⟨wb,hwb⟩:∃wb,wb=w.alloc (.cells #[.int .i64 4,.int .i64 A,.int .i64 B,.int .u64 W] 77):=⟨_,rfl⟩
 have hbb:Bl w wb:=by rw[hwb];exact AO
 have he1:=he wb;rw[hwb] at he1;have HWB:=A5 hwb;have HBB:=A5 hbb;have HW:=A5 hw;have HR:=A5 hr;have HA:=A5 ha;clear hwb hbb hw hr ha he;go_enter func172,ntmps172
 go_wp2_with fail
 refine he1.mono ?_;rintro e w1 ⟨rfl,hb1'⟩;have hb1:Bl wb w1:=by rw[HWB.out];exact hb1'
 have b1:Bl w w1:=Ab HBB.out hb1;clear hb1 hb1' he1;go_wp2_with fail
 refine(HW.out w1 b1).mono ?_;rintro e w2 ⟨rfl,hb2⟩;have b2:Bl w w2:=Ab b1 hb2;go_wp2_with fail
 refine(HR.out w2 b2).mono ?_;rintro e w3 ⟨rfl,hb3⟩;have b3:Bl w w3:=Ab b2 hb3;go_wp2_with fail
 refine(HA.out w3 b3).mono ?_;rintro e w4 ⟨rfl,hR4⟩;go_wp2_with fail
 go_ret;exact⟨rfl,hR4⟩
def I3 (w w':World) (gu b0:Nat) (s:YS) (g1 c1 g2 c2:Nat) (a3:Option Addr):Prop :=
 ∃a3' c3' P',XU w' gu b0 s g1 c1 g2 c2 a3' c3' P'/\BF (Py gu g1 g2 a3) w w'/\∀k,Jn a3'=some k->Jn a3=some k\/w.heap.size<=k
theorem XU.stay{w w':World}{gu b0:Nat}{s:YS}{g1 c1 g2 c2:Nat}{a3:Option Addr}{c3:Nat}{P:List BS}(h:XU w gu b0 s g1 c1 g2 c2 a3 c3 P)(hb:Bl w w'):I3 w w' gu b0 s g1 c1 g2 c2 a3:=⟨a3,c3,P,h.below hb,BF.of_below hb,fun k hk=>.inl hk⟩
theorem I3.after{w wX w':World}{gu b0:Nat}{s:YS}{g1 c1 g2 c2:Nat}{a3:Option Addr}(hb:Bl w wX)(h:I3 wX w' gu b0 s g1 c1 g2 c2 a3):I3 w w' gu b0 s g1 c1 g2 c2 a3:=by
 obtain⟨a,c,P,h1,h2,h3⟩:=h;exact⟨a,c,P,h1,(BF.of_below hb).then h2 (fun k _ hk=>hk),fun k hk=>(h3 k hk).imp id (fun h=>Nat.le_trans hb.size h)⟩
theorem Qy(gu b0:Nat)(s:YS)(g1 c1 g2 c2:Nat)(a3:Option Addr)(c3:Nat)(P:List BS)(o:BP)(n:Nat)(w:World)(hn:n<=512)(hln:s.l.length=n*16)(hm:Cu s.m)(hl:Cu s.l)(ho:Y6 n s o)(hw0:0<=o.word)(hw1:o.word<18446744073709551616)(h:XU w gu b0 s g1 c1 g2 c2 a3 c3 P):Calls prog 172 #[.pointer (some ⟨gu,0,none⟩),.agg #[.int .i64 o.kind,.int .i64 o.a,.int .i64 o.b,.int .u64 o.word]] w fun e w'=>e=.returned (.int .i64 0)/\I3 w w' gu b0 (Cq s o) g1 c1 g2 c2 a3:=by
 have hml:=h.ml;have hc1:s.m.length<=c1:=by
  rcases h.r1.2 with⟨e,_⟩|⟨_,_,_,e,_,_,hn,_⟩
  ·cases e
  ·injection e with _ _ e;omega
 have hc2:s.l.length<=c2:=by
  rcases h.r2.2 with⟨e,_⟩|⟨_,_,_,e,_,_,hn,_⟩
  ·cases e
  ·injection e with _ _ e;omega
 obtain⟨K,A,B,W⟩:=o;unfold Y6 at ho;dsimp only at ho hw0 hw1 ⊢;rcases ho with⟨rfl,a0,a1,rfl,hk,hok⟩|⟨rfl,rfl,rfl,rfl⟩|⟨rfl,a0,b1,ab,rfl⟩|⟨rfl,a0,a1,rfl,rfl,f1,f2⟩
 ·obtain⟨AN,rfl⟩:∃AN:Nat,A=AN:=⟨A.toNat,by omega⟩
  refine UF gu _ _ _ w (fun w'=>I3 w w' gu b0 (Cq s ⟨1,AN,0,W⟩) g1 c1 g2 c2 a3) (fun wX hX=>?_) (fun wX hX=>?_) (fun wX hX=>?_)
  ·have hu:=h.below hX;have t:=Pn gu 1 AN 0 W _ _ _ _ _ _ wX hu.lt hu.q0 hu.q2;rw[decide_eq_true ⟨by omega,by omega,rfl,by have:=h.pk;omega⟩] at t;exact t
  ·refine Sh gu AN 0 W 0 wX (h.below hX).lt (fun wY hY=>?_);have hu:=(h.below hX).below hY;exact MC gu g2 c2 AN s.l W wY hu.lt (by omega) hw0 hw1 hl hc2 hu.r2.crow hok hu.q1 hu.q3 hu.q4
  ·refine(NF gu b0 s g1 c1 g2 c2 a3 c3 P 1 0 W AN wX (by omega) (by omega) (by have:=h.pk;omega) (h.below hX)).mono ?_;rintro e w' ⟨rfl,g3,cap3,h1,h2,h3⟩;refine⟨rfl,I3.after hX ⟨_,_,_,h1,h2,fun k hk=>?_⟩⟩;(have:k=g3:=by simpa [Jn,Value.ownBlock] using hk.symm);rw[this];exact h3
 ·refine UR gu _ _ _ w (fun w'=>I3 w w' gu b0 (Cq s ⟨2,0,0,0⟩) g1 c1 g2 c2 a3) (fun wX hX=>?_) (fun wX hX=>SZ gu 0 0 0 wX) (fun wX hX=>?_)
  ·have t:=MP gu 2 0 0 0 wX;rw[decide_eq_true ⟨rfl,rfl,rfl⟩] at t;exact t
  ·refine(MH gu b0 s g1 c1 g2 c2 a3 c3 P 2 0 0 0 wX (by omega) (h.below hX)).mono ?_;rintro e w' ⟨rfl,h1,h2⟩;exact⟨rfl,I3.after hX ⟨_,_,_,h1,h2,fun k hk=>by cases hk⟩⟩
 ·refine Uq gu _ _ _ w (fun w'=>I3 w w' gu b0 (Cq s ⟨3,A,B,0⟩) g1 c1 g2 c2 a3) (fun wX hX=>?_) (fun wX hX=>T4 gu A B 0 wX) (fun wX hX=>?_)
  ·have t:=TB gu 3 A B 0 wX a0 (by omega);rw[decide_eq_true ⟨a0,by omega,b1,ab,rfl⟩] at t;exact t
  ·have hu:=h.below hX;refine(ME gu 3 A B 0 wX hu.lt hu.q3 hu.q4).mono ?_;rintro e w' ⟨rfl,hb⟩;exact⟨rfl,I3.after hX (hu.stay hb)⟩
 ·refine VM gu _ _ _ w (fun w'=>I3 w w' gu b0 (Cq s ⟨4,A,0,0⟩) g1 c1 g2 c2 a3) (fun wX hX=>?_) (fun wX hX=>?_) (fun wX hX=>?_)
  ·have hu:=h.below hX;have t:=Qu gu 4 A 0 0 _ _ _ wX (by omega) (by omega) hu.lt hu.q0;rw[decide_eq_true ⟨a0,by omega,rfl,rfl⟩] at t;exact t
  ·refine Sc gu A 0 0 0 wX (h.below hX).lt (fun wY hY=>?_);have hu:=(h.below hX).below hY;exact Ob gu g1 c1 g2 c2 A s.m s.l wY hu.lt hm hl hc1 hc2 hu.r1.crow hu.r2.crow f1 f2 hu.q0 hu.q1 hu.q4
  ·refine(LF gu 4 A 0 0 wX).mono ?_;rintro e w' ⟨rfl,hb⟩;exact⟨rfl,I3.after hX ((h.below hX).stay hb)⟩
structure Wo (W:World) (gx gu:Nat) (ao:Option Addr) (co m i:Nat):Prop where
 lt:gx<W.heap.size
 p0:W.cell? ⟨gx,0,none⟩=some (.pointer (some ⟨gu,0,none⟩))
 p1:W.cell? ⟨gx,1,none⟩=some (.slice ao m co)
 p2:W.cell? ⟨gx,2,none⟩=some (.int .i64 (i:Int))
 p3:W.cell? ⟨gx,3,none⟩=some (.int .i64 0)
 p4:W.cell? ⟨gx,4,none⟩=some (.slice none 0 0)
 fz:∀j,W.frozen? ⟨gx,j,none⟩=false
theorem Wo.tch{W W':World}{gx gu:Nat}{ao:Option Addr}{co m i:Nat}{S:Nat->Prop}(h:Wo W gx gu ao co m i)(ht:BF S W W')(hn:¬S gx):Wo W' gx gu ao co m i :=
 ⟨Nat.lt_of_lt_of_le h.lt ht.size,(ht.cell (p:=⟨gx,0,none⟩) h.lt hn).trans h.p0,(ht.cell (p:=⟨gx,1,none⟩) h.lt hn).trans h.p1,(ht.cell (p:=⟨gx,2,none⟩) h.lt hn).trans h.p2,(ht.cell (p:=⟨gx,3,none⟩) h.lt hn).trans h.p3,(ht.cell (p:=⟨gx,4,none⟩) h.lt hn).trans h.p4,fun j=>(ht.frozen (p:=⟨gx,j,none⟩) h.lt hn).trans (h.fz j)⟩
theorem XU.tch{W W':World}{gu b0:Nat}{s:YS}{g1 c1 g2 c2:Nat}{a3:Option Addr}{c3:Nat}{P:List BS}{S:Nat->Prop}(h:XU W gu b0 s g1 c1 g2 c2 a3 c3 P)(ht:BF S W W')(hn:∀k,Py gu g1 g2 a3 k->¬S k):XU W' gu b0 s g1 c1 g2 c2 a3 c3 P:=by
 have hu:=hn gu (.inl rfl);have e:∀a:Option Addr,oB a=Jn a:=fun a=>rfl
 exact⟨h.lo,Nat.lt_of_lt_of_le h.lt ht.size,(ht.cell (p:=⟨gu,0,none⟩) h.lt hu).trans h.q0,(ht.cell (p:=⟨gu,1,none⟩) h.lt hu).trans h.q1,(ht.cell (p:=⟨gu,2,none⟩) h.lt hu).trans h.q2,(ht.cell (p:=⟨gu,3,none⟩) h.lt hu).trans h.q3,(ht.cell (p:=⟨gu,4,none⟩) h.lt hu).trans h.q4,fun i=>(ht.frozen (p:=⟨gu,i,none⟩) h.lt hu).trans (h.fz i),h.r1.tch ht (fun k hk=>hn k (.inr (.inl (by injection hk with e;exact e.symm)))),h.r2.tch ht (fun k hk=>hn k (.inr (.inr (.inl (by injection hk with e;exact e.symm))))),h.r3.tch ht (fun k hk=>hn k (.inr (.inr (.inr hk)))),h.pk,h.ml,h.n12,h.nu1,h.nu2,h.n3⟩
structure XR (w0 W:World) (gx gu b0:Nat) (ao:Option Addr) (co:Nat) (l:List BP) (s0:YS) (g1 c1 g2 c2 i:Nat) (a3:Option Addr) (c3:Nat) (P:List BS):Prop where
 u:XU W gu b0 (Do s0 (l.take i)) g1 c1 g2 c2 a3 c3 P
 x:Wo W gx gu ao co l.length i
 n:¬Py gu g1 g2 a3 gx
 b:Below b0 w0 W
theorem Sq(w0:World)(gx gu b0 bo:Nat)(ao:Option Addr)(co:Nat)(l:List BP)(s0:YS)(g1 c1 g2 c2 i n:Nat)(a3:Option Addr)(c3:Nat)(P:List BS)(w:World)(hb0:b0=w0.heap.size)(hi:i<l.length)(hll:l.length<=20000)(hgx:b0<=gx)(hst:∀wX a3' c3' P',XU wX gu b0 (Do s0 (l.take i)) g1 c1 g2 c2 a3' c3' P'->Calls prog 172 #[.pointer (some ⟨gu,0,none⟩),.agg #[.int .i64 (AQ BW l i).kind,.int .i64 (AQ BW l i).a,.int .i64 (AQ BW l i).b,.int .u64 (AQ BW l i).word]] wX fun e w'=>e=.returned (.int .i64 0)/\I3 wX w' gu b0 (Cq (Do s0 (l.take i)) (AQ BW l i)) g1 c1 g2 c2 a3')(hops:A8 BW w0 bo (.slice ao l.length co) l)(h:XR w0 w gx gu b0 ao co l s0 g1 c1 g2 c2 i a3 c3 P):Calls prog 116 #[.pointer (some ⟨gx,0,none⟩)] w fun e w'=>e=.returned (.tuple #[])/\∃a3' c3' P',XR w0 w' gx gu b0 ao co l s0 g1 c1 g2 c2 (i+1) a3' c3' P':=by
 obtain⟨go,rfl⟩:∃go,ao=some ⟨go,0,none⟩:=by
  obtain⟨a',c',e,h1⟩:=hops.form;obtain⟨g,N,f,e2,_⟩:=h1 (by omega);simp only[Value.slice.injEq] at e;exact⟨g,by rw[e.1,e2]⟩
 have HGO:Hid (∀wX,Below b0 w0 wX->wX.cell? ⟨go,i*4,none⟩=some (.int .i64 (AQ BW l i).kind)/\wX.cell? ⟨go,i*4+1,none⟩=some (.int .i64 (AQ BW l i).a)/\wX.cell? ⟨go,i*4+2,none⟩=some (.int .i64 (AQ BW l i).b)/\wX.cell? ⟨go,i*4+3,none⟩=some (.int .u64 (AQ BW l i).word)):=A6 fun wX hX=>(Oz (hops.below (by rw[hb0] at hX;exact hX)) i hi).2
 have HST:=A5 hst;have HTK:Hid (Cq (Do s0 (l.take i)) (AQ BW l i)=Do s0 (l.take (i+1))):=A6 (by rw[D6 BW l i hi,FH];rfl);generalize AQ BW l i=OO at *;obtain⟨K,A,B,W⟩:=OO;dsimp only at HGO HST;obtain⟨hu,hx,hn,hb⟩:=h;obtain⟨glt,p0,p1,p2,p3,p4,pf⟩:=hx;obtain⟨y0,y1,y2,y3⟩:=HGO.out w hb;have K0:(0:Int)<=(i:Int):=by omega
 have K1:(i:Int)<(l.length:Int):=by omega
 have K2:((i:Int)==(l.length:Int))=false:=by simp;omega
 obtain⟨wD,hwD⟩:∃x,x=w.drew.drew:=⟨_,rfl⟩
 have hbD:Bl w wD:=by rw[hwD];exact AH.drew.drew
 have huD:=hu.below hbD;have hxD:Wo wD gx gu (some ⟨go,0,none⟩) co l.length i:=Wo.tch (S:=fun _=>False) ⟨glt,p0,p1,p2,p3,p4,pf⟩ (BF.of_below hbD) (fun h=>h);have t1:=HST.out wD a3 c3 P huD;have HBW:Hid (∀w',BF (Py gu g1 g2 a3) wD w'->Below b0 w0 w'):=A6 fun w' h2=>by
  obtain⟨⟨m1,_⟩,⟨m2,_⟩,m3⟩:=huD.g1lt;have mu:=huD.lo;have hbw:Below b0 w0 wD:=hb.trans (hbD.mono (by have:=hb.size;omega))
  exact⟨h2.os.trans hbw.os,h2.tape.trans hbw.tape,h2.output.trans hbw.output,Nat.le_trans hbw.size h2.size,fun k hk=>(h2.block k (by have:=hbw.size;omega) (by
   rintro(e|e|e|e)
   ·omega
   ·omega
   ·omega
   ·have:=(m3 k e).1;omega)).trans (hbw.block k hk)⟩
 have HFIN:Hid (∀w' a3' c3' P',XU w' gu b0 (Cq (Do s0 (l.take i)) ⟨K,A,B,W⟩) g1 c1 g2 c2 a3' c3' P'->BF (Py gu g1 g2 a3) wD w'->(∀k,Jn a3'=some k->Jn a3=some k\/wD.heap.size<=k)->XR w0 ((w'.setCell ⟨gx,3,none⟩ (.int .i64 0)).setCell ⟨gx,2,none⟩ (.int .i64 ((i:Int)+1))) gx gu b0 (some ⟨go,0,none⟩) co l s0 g1 c1 g2 c2 (i+1) a3' c3' P'):=A6 fun w' a3' c3' P' h1 h2 h3=>by
  have hx':=hxD.tch h2 hn;have hn':¬Py gu g1 g2 a3' gx:=by
   rintro(e|e|e|e)
   ·exact hn (.inl e)
   ·exact hn (.inr (.inl e))
   ·exact hn (.inr (.inr (.inl e)))
   ·rcases h3 gx e with e'|e'
    ·exact hn (.inr (.inr (.inr e')))
    ·have:=hxD.lt;omega
  have hts:BF (fun k=>k=gx) w' ((w'.setCell ⟨gx,3,none⟩ (.int .i64 0)).setCell ⟨gx,2,none⟩ (.int .i64 ((i:Int)+1))):=((BF.refl (S:=fun k=>k=gx) w').set ⟨gx,3,none⟩ _ rfl).set ⟨gx,2,none⟩ _ rfl;have ne:∀a c:Nat,a≠c->(⟨gx,a,none⟩:Addr)≠⟨gx,c,none⟩:=fun a c hac e=>hac (by injection e)
  refine⟨by rw[<- HTK.out];exact h1.tch hts (fun k hk e=>hn' (by rw[<- e];exact hk)),⟨by simpa using hx'.lt,?_,?_,?_,?_,?_,fun j=>?_⟩,hn',?_⟩
  ·rw[World.cell?_setCell_other _ _ _ _ (ne _ _ (by decide)),World.cell?_setCell_other _ _ _ _ (ne _ _ (by decide))];exact hx'.p0
  ·rw[World.cell?_setCell_other _ _ _ _ (ne _ _ (by decide)),World.cell?_setCell_other _ _ _ _ (ne _ _ (by decide))];exact hx'.p1
  ·rw[show ((i+1:Nat):Int)=(i:Int)+1 by omega];exact World.cell?_setCell_same _ _ _ (by rw[World.cell?_setCell_other _ _ _ _ (ne _ _ (by decide))];exact hx'.p2)
  ·rw[World.cell?_setCell_other _ _ _ _ (ne _ _ (by decide))];exact World.cell?_setCell_same _ _ _ hx'.p3
  ·rw[World.cell?_setCell_other _ _ _ _ (ne _ _ (by decide)),World.cell?_setCell_other _ _ _ _ (ne _ _ (by decide))];exact hx'.p4
  ·rw[World.frozen?_setCell,World.frozen?_setCell];exact hx'.fz j
  ·exact((HBW.out w' h2).setCell hgx _).setCell hgx _
 have HCX:Hid (∀w',BF (Py gu g1 g2 a3) wD w'->Wo w' gx gu (some ⟨go,0,none⟩) co l.length i):=A6 fun w' h2=>hxD.tch h2 hn
 obtain⟨v0,v1,v2,v3⟩:=HGO.out wD (hb.trans (hbD.mono (by have:=hb.size;omega)));have HWD:=A5 hwD;have HV:Hid (∀w',BF (Py gu g1 g2 a3) wD w'->w'.cell? ⟨gx,0,none⟩=some (.pointer (some ⟨gu,0,none⟩))/\w'.cell? ⟨gx,1,none⟩=some (.slice (some ⟨go,0,none⟩) l.length co)/\w'.cell? ⟨gx,2,none⟩=some (.int .i64 (i:Int))):=A6 fun w' h2=>⟨(HCX.out w' h2).p0,(HCX.out w' h2).p1,(HCX.out w' h2).p2⟩
 have HNG:Hid (go≠gx):=A6 (by have:=(hops.own go rfl).2;omega);have HSET:Hid (∀w':World,(w'.cell? ⟨gx,0,none⟩=some (.pointer (some ⟨gu,0,none⟩))/\w'.cell? ⟨gx,1,none⟩=some (.slice (some ⟨go,0,none⟩) l.length co)/\w'.cell? ⟨gx,2,none⟩=some (.int .i64 (i:Int))/\w'.cell? ⟨go,i*4,none⟩=some (.int .i64 K)/\w'.cell? ⟨go,i*4+1,none⟩=some (.int .i64 A)/\w'.cell? ⟨go,i*4+2,none⟩=some (.int .i64 B)/\w'.cell? ⟨go,i*4+3,none⟩=some (.int .u64 W))->((w'.setCell ⟨gx,3,none⟩ (.int .i64 0)).cell? ⟨gx,0,none⟩=some (.pointer (some ⟨gu,0,none⟩))/\(w'.setCell ⟨gx,3,none⟩ (.int .i64 0)).cell? ⟨gx,1,none⟩=some (.slice (some ⟨go,0,none⟩) l.length co)/\(w'.setCell ⟨gx,3,none⟩ (.int .i64 0)).cell? ⟨gx,2,none⟩=some (.int .i64 (i:Int))/\(w'.setCell ⟨gx,3,none⟩ (.int .i64 0)).cell? ⟨go,i*4,none⟩=some (.int .i64 K)/\(w'.setCell ⟨gx,3,none⟩ (.int .i64 0)).cell? ⟨go,i*4+1,none⟩=some (.int .i64 A)/\(w'.setCell ⟨gx,3,none⟩ (.int .i64 0)).cell? ⟨go,i*4+2,none⟩=some (.int .i64 B)/\(w'.setCell ⟨gx,3,none⟩ (.int .i64 0)).cell? ⟨go,i*4+3,none⟩=some (.int .u64 W))):=A6 fun w' h=>by
  have hng:=HNG.out;refine⟨?_,?_,?_,?_,?_,?_,?_⟩<;>rw[World.cell?_setCell_other _ _ _ _ (by intro e;simp only[Addr.mk.injEq] at e;omega)]
  ·exact h.1
  ·exact h.2.1
  ·exact h.2.2.1
  ·exact h.2.2.2.1
  ·exact h.2.2.2.2.1
  ·exact h.2.2.2.2.2.1
  ·exact h.2.2.2.2.2.2
 have V1:=AR ((i:Int)+1);clear hu hb hbD huD hxD hwD hops hst HST;go_enter func116,ntmps116
 go_wp2_with fail
 refine wp_region_held_drew (S:=fun wX=>wX.cell? ⟨gx,1,none⟩=some (.slice (some ⟨go,0,none⟩) l.length co)/\wX.cell? ⟨gx,2,none⟩=some (.int .i64 (i:Int))) (by kernel_rfl) ⟨p1,p2⟩ (fun hHeld=>?_);refine tk 0 ?_;refine tk 1 ?_;refine tk 2 ?_;refine tk 3 ?_;refine tk 4 ?_;refine tk 5 ?_;refine tk 6 ?_;refine tk 7 ?_;refine tk 8 ?_;refine tk 9 ?_;refine AZ ?_;clear hHeld;go_wp2_with fail
 refine wp_region_held_drew (S:=fun wX=>wX.cell? ⟨gx,0,none⟩=some (.pointer (some ⟨gu,0,none⟩))/\wX.cell? ⟨gx,1,none⟩=some (.slice (some ⟨go,0,none⟩) l.length co)/\wX.cell? ⟨gx,2,none⟩=some (.int .i64 (i:Int))/\wX.cell? ⟨go,i*4,none⟩=some (.int .i64 K)/\wX.cell? ⟨go,i*4+1,none⟩=some (.int .i64 A)/\wX.cell? ⟨go,i*4+2,none⟩=some (.int .i64 B)/\wX.cell? ⟨go,i*4+3,none⟩=some (.int .u64 W)) (by kernel_rfl) ⟨p0,p1,p2,y0,y1,y2,y3⟩ (fun hHeld=>?_);rw[<- HWD.out] at hHeld ⊢;refine tk 0 ?_;refine tk 1 ?_;refine tk 2 ?_;refine tk 3 ?_;refine tk 4 ?_;refine tk 5 ?_;refine tk 6 ?_;refine tk 7 ?_;refine tk 8 ?_;refine tk 9 ?_;refine tk 10 ?_;refine tk 11 ?_;refine tk 12 ?_;refine tk 13 ?_;refine tk 14 ?_;refine Aj 15 fun K hK=>?_
 go_simp;refine t1.mono ?_;rintro e w2 ⟨rfl,a3',c3',P',h1,h2,h3⟩;have hfin:=HFIN.out w2 a3' c3' P' h1 h2 h3;have HF:=A5 hfin;have hx2:=HCX.out w2 h2;obtain⟨m0,m1,m2⟩:=HV.out w2 h2;have o3:=hx2.p3;have f3:=hx2.fz 3;have f2:=hx2.fz 2;obtain⟨n0,n1,n2,n3⟩:=HGO.out w2 (HBW.out w2 h2);clear h1 h2 h3 hx2 hfin;go_wp2_with fail
 refine hK.out _ _ ⟨m0,m1,m2,n0,n1,n2,n3⟩ (fun hHeld2=>?_);clear hK K;refine tk 16 ?_;refine tk 17 ?_;refine Aj 18 fun K hK=>?_
 go_simp;refine hK.out _ _ (HSET.out w2 ⟨m0,m1,m2,n0,n1,n2,n3⟩) (fun hHeld3=>?_);clear hK K;refine AZ ?_;clear hHeld hHeld2 hHeld3;have e3:(w2.setCell ⟨gx,3,none⟩ (.int .i64 0)).cell? ⟨gx,3,none⟩=some (.int .i64 0):=World.cell?_setCell_same _ _ _ o3;have e2:(w2.setCell ⟨gx,3,none⟩ (.int .i64 0)).cell? ⟨gx,2,none⟩=some (.int .i64 (i:Int)):=by rw[World.cell?_setCell_other _ _ _ _ (by intro e;injection e with _ e;cases e)];exact m2
 go_wp2_with fail
 exact bodyPost_end (v:=.tuple #[]) (by simp[results,results116,go_sem]) rfl ⟨rfl,a3',c3',P',HF.out⟩
theorem XR.below{w0 W W':World}{gx gu b0:Nat}{ao:Option Addr}{co:Nat}{l:List BP}{s0:YS}{g1 c1 g2 c2 i:Nat}{a3:Option Addr}{c3:Nat}{P:List BS}(h:XR w0 W gx gu b0 ao co l s0 g1 c1 g2 c2 i a3 c3 P)(hb0:b0=w0.heap.size)(hb:Bl W W'):XR w0 W' gx gu b0 ao co l s0 g1 c1 g2 c2 i a3 c3 P :=
 ⟨h.u.below hb,h.x.tch (S:=fun _=>False) (BF.of_below hb) (fun h=>h),h.n,h.b.trans (hb.mono (by have:=h.b.size;omega))⟩
def WH (gx:Nat) (w:World):Nat:=match w.cell? ⟨gx,2,none⟩ with
 | some (.int _ x)=>x.toNat
 | _=>0
theorem Wo.at_{W:World}{gx gu:Nat}{ao:Option Addr}{co m i:Nat}(h:Wo W gx gu ao co m i):WH gx W=i:=by unfold WH;rw[h.p2];exact Int.toNat_natCast i
theorem PE(w0:World)(gx gu b0 bo:Nat)(ao:Option Addr)(co:Nat)(l:List BP)(s0:YS)(g1 c1 g2 c2:Nat)(a3:Option Addr)(c3:Nat)(P:List BS)(w:World)(hb0:b0=w0.heap.size)(hll:l.length<=20000)(hgx:b0<=gx)(hst:∀i,i<l.length->∀wX a3' c3' P',XU wX gu b0 (Do s0 (l.take i)) g1 c1 g2 c2 a3' c3' P'->Calls prog 172 #[.pointer (some ⟨gu,0,none⟩),.agg #[.int .i64 (AQ BW l i).kind,.int .i64 (AQ BW l i).a,.int .i64 (AQ BW l i).b,.int .u64 (AQ BW l i).word]] wX fun e w'=>e=.returned (.int .i64 0)/\I3 wX w' gu b0 (Cq (Do s0 (l.take i)) (AQ BW l i)) g1 c1 g2 c2 a3')(hops:A8 BW w0 bo (.slice ao l.length co) l)(h:XR w0 w gx gu b0 ao co l s0 g1 c1 g2 c2 0 a3 c3 P):Calls prog 45 #[.pointer (some ⟨gx,0,none⟩)] w fun e w'=>e=.returned (.tuple #[])/\∃a3' c3' P',XR w0 w' gx gu b0 ao co l s0 g1 c1 g2 c2 l.length a3' c3' P':=by
 have HN:Hid (∀i a3 c3 P wX,i<l.length->XR w0 wX gx gu b0 ao co l s0 g1 c1 g2 c2 i a3 c3 P->Calls prog 116 #[.pointer (some ⟨gx,0,none⟩)] wX fun e w'=>e=.returned (.tuple #[])/\∃a3' c3' P',XR w0 w' gx gu b0 ao co l s0 g1 c1 g2 c2 (i+1) a3' c3' P'):=A6 fun i a3 c3 P wX hi hX=>Sq w0 gx gu b0 bo ao co l s0 g1 c1 g2 c2 i 0 a3 c3 P wX hb0 hi hll hgx (hst i hi) hops hX
 have HBL:Hid (∀i a3 c3 P wX wY,XR w0 wX gx gu b0 ao co l s0 g1 c1 g2 c2 i a3 c3 P->Bl wX wY->XR w0 wY gx gu b0 ao co l s0 g1 c1 g2 c2 i a3 c3 P):=A6 fun i a3 c3 P wX wY h1 h2=>h1.below hb0 h2
 have H0:=A5 h;clear hst hops h hb0;go_enter func45,ntmps45
 go_wp2_with fail
 go_loopw [] (fun wr=>∃(i:Nat) (a3:Option Addr) (c3:Nat) (P:List BS),i<=l.length/\Hid (XR w0 wr gx gu b0 ao co l s0 g1 c1 g2 c2 i a3 c3 P)) (fun wr=>l.length-WH gx wr)
 case atStart=>exact⟨0,a3,c3,P,Nat.zero_le _,H0⟩
 case round =>
  obtain⟨i,a3,c3,P,hi,HX⟩:=hrel;have p1:=HX.out.x.p1;have p2:=HX.out.x.p2;have p3:=HX.out.x.p3;have e9:WH gx wr=i:=HX.out.x.at_;have HE:=A5 e9;obtain⟨wD,hwD⟩:∃x,x=wr.drew:=⟨_,rfl⟩
  have hD:=HBL.out i a3 c3 P wr wD HX.out (by rw[hwD];exact AH.drew);have HWD:=A5 hwD;have HD:=A5 hD;obtain⟨v,hv⟩:∃v,v=decide ((i:Int)<(l.length:Int)):=⟨_,rfl⟩
  have K1:decide ((i:Int)<(l.length:Int))=v:=hv.symm;have HV:=A5 hv;clear hD hwD hv e9;go_wp2_with fail
  refine wp_region_held_drew (S:=fun wX=>wX.cell? ⟨gx,1,none⟩=some (.slice ao l.length co)/\wX.cell? ⟨gx,2,none⟩=some (.int .i64 (i:Int))/\wX.cell? ⟨gx,3,none⟩=some (.int .i64 0)) (by kernel_rfl) ⟨p1,p2,p3⟩ (fun hHeld=>?_);rw[<- HWD.out] at hHeld ⊢;refine tk 0 ?_;refine tk 1 ?_;refine tk 2 ?_;refine tk 3 ?_;refine tk 4 ?_;refine tk 5 ?_;refine tk 6 ?_;refine tk 7 ?_;refine tk 8 ?_;refine tk 9 ?_;refine tk 10 ?_;refine tk 11 ?_;refine tk 12 ?_;refine tk 13 ?_;refine tk 14 ?_;refine tk 15 ?_;refine tk 16 ?_;refine AZ ?_;clear hHeld p1 p2 p3;by_cases hlt:i<l.length
  ·(obtain rfl:v=true:=by rw[HV.out];exact decide_eq_true (by omega));clear K1;(go_wp2_with fail);refine(HN.out i a3 c3 P wD hlt HD.out).mono ?_;rintro e w2 ⟨rfl,a3',c3',P',h2⟩;have HX2:=A5 h2;clear h2;(go_wp2_with fail);go_roundw;(case rel=>exact⟨i+1,a3',c3',P',by omega,HX2⟩);case measure=>rw[HX2.out.x.at_,HE.out];omega
  ·(obtain rfl:v=false:=by rw[HV.out];exact decide_eq_false (by omega));(obtain rfl:i=l.length:=by omega);clear K1;(go_wp2_with fail);exact bodyPost_end (v:=.tuple #[]) (by simp[results,results45,go_sem]) rfl ⟨rfl,a3,c3,P,HD.out⟩
end Go.Proofs.YtnmhkgmmpkjjeaaGreat
