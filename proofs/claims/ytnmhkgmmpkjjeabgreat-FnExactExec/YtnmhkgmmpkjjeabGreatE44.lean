import Derived.Test.YtnmhkgmmpkjjeabGreatE20
namespace Go.Proofs.YtnmhkgmmpkjjeabGreat
open ChangeShapes WideShapes ChangeAt RowKit Proofs.Tryz
set_option linter.all false
set_option maxRecDepth 100000
set_option maxHeartbeats 4000000
attribute [local go_sem ↓] wp_at_zero wp_at_succ
theorem Jk(a:Option Addr)(m c:Nat)(o:Int)(hm:m<=8192)(hm2:m%16=0)(w:World):Calls prog 127 #[.agg #[.slice a m c],.int .i64 o] w fun e w'=>e=.returned (.bool (decide (0<=o/\o<(m:Int)/16)))/\Below w.heap.size w w':=by
 by_cases ho:0<=o
 ·have:=D8 a m c o ((m:Int)/16) (by omega) ho hm w;rw[show decide (0<=o/\o<(m:Int)/16)=decide (o<(m:Int)/16) by simp[ho]];exact this
 ·have h0:decide (0<=o)=false:=decide_eq_false ho;rw[decide_eq_false (p:=0<=o/\o<(m:Int)/16) (fun h=>ho h.1)];clear ho;go_enter func127,ntmps127
  go_wp2
  go_ret;exact⟨rfl,(Below.refl _ _).alloc (Nat.le_refl _) _⟩
theorem LV(A B W:Int)(w:World):Calls prog 117 #[.agg #[.int .i64 1,.int .i64 A,.int .i64 B,.int .u64 W]] w fun e w'=>e=.returned (.iface 200 (.agg #[.int .i64 1,.int .i64 A,.int .i64 B,.int .u64 W]))/\Below w.heap.size w w':=by
 go_enter func117,ntmps117
 go_wp2_with fail
 go_ret;exact⟨rfl,(Below.refl _ _).alloc (Nat.le_refl _) _⟩
theorem Kw(A B W:Int)(w:World):Calls prog 117 #[.agg #[.int .i64 2,.int .i64 A,.int .i64 B,.int .u64 W]] w fun e w'=>e=.returned (.iface 201 (.agg #[.int .i64 2,.int .i64 A,.int .i64 B,.int .u64 W]))/\Below w.heap.size w w':=by
 go_enter func117,ntmps117
 go_wp2_with fail
 go_ret;exact⟨rfl,(Below.refl _ _).alloc (Nat.le_refl _) _⟩
theorem LE(A B W:Int)(w:World):Calls prog 117 #[.agg #[.int .i64 3,.int .i64 A,.int .i64 B,.int .u64 W]] w fun e w'=>e=.returned (.iface 202 (.agg #[.int .i64 3,.int .i64 A,.int .i64 B,.int .u64 W]))/\Below w.heap.size w w':=by
 go_enter func117,ntmps117
 go_wp2_with fail
 go_ret;exact⟨rfl,(Below.refl _ _).alloc (Nat.le_refl _) _⟩
theorem LK(A B W:Int)(w:World):Calls prog 117 #[.agg #[.int .i64 4,.int .i64 A,.int .i64 B,.int .u64 W]] w fun e w'=>e=.returned (.iface 203 (.agg #[.int .i64 4,.int .i64 A,.int .i64 B,.int .u64 W]))/\Below w.heap.size w w':=by
 go_enter func117,ntmps117
 go_wp2_with fail
 go_ret;exact⟨rfl,(Below.refl _ _).alloc (Nat.le_refl _) _⟩
theorem Ki(K A B W:Int)(w:World)(h1:¬K=1)(h2:¬K=2)(h3:¬K=3)(h4:¬K=4):Calls prog 117 #[.agg #[.int .i64 K,.int .i64 A,.int .i64 B,.int .u64 W]] w fun e w'=>e=.returned .nilIface/\Below w.heap.size w w':=by
 have d1:(K==1)=false:=by simpa using h1
 have d2:(K==2)=false:=by simpa using h2
 have d3:(K==3)=false:=by simpa using h3
 have d4:(K==4)=false:=by simpa using h4
 clear h1 h2 h3 h4;go_enter func117,ntmps117
 go_wp2_with fail
 go_ret;exact⟨rfl,(Below.refl _ _).alloc (Nat.le_refl _) _⟩
theorem J8(gu:Nat)(K A B W:Int)(a1 a3:Option Addr)(n1 c1 n3 c3:Nat)(w:World)(hg:gu<w.heap.size)(q0:w.cell? ⟨gu,0,none⟩=some (.slice a1 n1 c1))(q2:w.cell? ⟨gu,2,none⟩=some (.slice a3 n3 c3)):Calls prog 183 #[.agg #[.int .i64 K,.int .i64 A,.int .i64 B,.int .u64 W],.pointer (some ⟨gu,0,none⟩)] w fun e w'=>e=.returned (.bool (decide (0<=A/\A<(n1:Int)/\B=0/\(n3:Int)<10000)))/\Below w.heap.size w w':=by
 by_cases h0:0<=A
 ·have d0:decide (0<=A)=true:=by simpa using h0
  by_cases h1:A<(n1:Int)
  ·(have d1:decide (A<(n1:Int))=true:=by simpa using h1);by_cases h2:B=0
   ·(have d2:(B==0)=true:=by simpa using h2);by_cases h3:(n3:Int)<10000
    ·(have d3:decide ((n3:Int)<10000)=true:=by simpa using h3);rw[decide_eq_true (p:=0<=A/\A<(n1:Int)/\B=0/\(n3:Int)<10000) (by omega)];(go_enter func183,ntmps183);(go_wp2_with fail);(go_quiet (fail));(go_wp2_with fail);go_ret;exact⟨by first|rfl|simp,AS ((Below.refl _ _).alloc (Nat.le_refl _) _) _⟩
    ·(have d3:decide ((n3:Int)<10000)=false:=by simpa using h3);rw[decide_eq_false (p:=0<=A/\A<(n1:Int)/\B=0/\(n3:Int)<10000) (fun h=>h3 (by omega))];clear h3;(go_enter func183,ntmps183);(go_wp2_with fail);(go_quiet (fail));(go_wp2_with fail);go_ret;exact⟨by first|rfl|simp,AS ((Below.refl _ _).alloc (Nat.le_refl _) _) _⟩
   ·(have d2:(B==0)=false:=by simpa using h2);rw[decide_eq_false (p:=0<=A/\A<(n1:Int)/\B=0/\(n3:Int)<10000) (fun h=>h2 (by omega))];clear h2;(go_enter func183,ntmps183);(go_wp2_with fail);(go_quiet (fail));(go_wp2_with fail);go_ret;exact⟨by first|rfl|simp,AS ((Below.refl _ _).alloc (Nat.le_refl _) _) _⟩
  ·(have d1:decide (A<(n1:Int))=false:=by simpa using h1);rw[decide_eq_false (p:=0<=A/\A<(n1:Int)/\B=0/\(n3:Int)<10000) (fun h=>h1 (by omega))];clear h1;(go_enter func183,ntmps183);(go_wp2_with fail);(go_quiet (fail));(go_wp2_with fail);go_ret;exact⟨by first|rfl|simp,AS ((Below.refl _ _).alloc (Nat.le_refl _) _) _⟩
 ·have d0:decide (0<=A)=false:=by simpa using h0
  rw[decide_eq_false (p:=0<=A/\A<(n1:Int)/\B=0/\(n3:Int)<10000) (fun h=>h0 (by omega))];clear h0;go_enter func183,ntmps183
  go_wp2_with fail
  go_quiet (fail)
  go_wp2_with fail
  go_ret;exact⟨by first|rfl|simp,AS ((Below.refl _ _).alloc (Nat.le_refl _) _) _⟩
theorem Gf(gu:Nat)(K A B W:Int)(w:World)  : Calls prog 185 #[.agg #[.int .i64 K,.int .i64 A,.int .i64 B,.int .u64 W],.pointer (some ⟨gu,0,none⟩)] w fun e w'=>e=.returned (.bool (decide (A=0/\B=0/\W=0)))/\Below w.heap.size w w':=by
 by_cases h0:A=0
 ·have d0:(A==0)=true:=by simpa using h0
  by_cases h1:B=0
  ·(have d1:(B==0)=true:=by simpa using h1);by_cases h2:W=0
   ·(have d2:(W==0)=true:=by simpa using h2);rw[decide_eq_true (p:=A=0/\B=0/\W=0) (by omega)];(go_enter func185,ntmps185);(go_wp2_with fail);go_ret;exact⟨by first|rfl|simp,(Below.refl _ _).alloc (Nat.le_refl _) _⟩
   ·(have d2:(W==0)=false:=by simpa using h2);rw[decide_eq_false (p:=A=0/\B=0/\W=0) (fun h=>h2 (by omega))];clear h2;(go_enter func185,ntmps185);(go_wp2_with fail);go_ret;exact⟨by first|rfl|simp,(Below.refl _ _).alloc (Nat.le_refl _) _⟩
  ·(have d1:(B==0)=false:=by simpa using h1);rw[decide_eq_false (p:=A=0/\B=0/\W=0) (fun h=>h1 (by omega))];clear h1;(go_enter func185,ntmps185);(go_wp2_with fail);go_ret;exact⟨by first|rfl|simp,(Below.refl _ _).alloc (Nat.le_refl _) _⟩
 ·have d0:(A==0)=false:=by simpa using h0
  rw[decide_eq_false (p:=A=0/\B=0/\W=0) (fun h=>h0 (by omega))];clear h0;go_enter func185,ntmps185
  go_wp2_with fail
  go_ret;exact⟨by first|rfl|simp,(Below.refl _ _).alloc (Nat.le_refl _) _⟩
theorem Kl(gu:Nat)(K A B W:Int)(w:World)(ha0:0<=A)(ha1:A<4096):Calls prog 193 #[.agg #[.int .i64 K,.int .i64 A,.int .i64 B,.int .u64 W],.pointer (some ⟨gu,0,none⟩)] w fun e w'=>e=.returned (.bool (decide (0<=A/\A<4096/\1<=B/\A+B<=4096/\W=0)))/\Below w.heap.size w w':=by
 have hpk:=BU A;rw[show AP A=true by simp[AP,ha0,ha1]] at hpk;by_cases h0:1<=B
 ·have d0:decide (1<=B)=true:=by simpa using h0
  by_cases h1:B<=4096-A
  ·(have d1:decide (B<=4096-A)=true:=by simpa using h1);by_cases h2:W=0
   ·(have d2:(W==0)=true:=by simpa using h2);rw[decide_eq_true (p:=0<=A/\A<4096/\1<=B/\A+B<=4096/\W=0) (by omega)];(go_enter func193,ntmps193);(go_wp2_with (go_at_call 48;refine(hpk _).mono ?_;rintro e w1 ⟨rfl,hw1⟩;obtain rfl:=hw1.symm));go_ret;exact⟨by first|rfl|simp,(Below.refl _ _).alloc (Nat.le_refl _) _⟩
   ·(have d2:(W==0)=false:=by simpa using h2);rw[decide_eq_false (p:=0<=A/\A<4096/\1<=B/\A+B<=4096/\W=0) (fun h=>h2 (by omega))];clear h2;(go_enter func193,ntmps193);(go_wp2_with (go_at_call 48;refine(hpk _).mono ?_;rintro e w1 ⟨rfl,hw1⟩;obtain rfl:=hw1.symm));go_ret;exact⟨by first|rfl|simp,(Below.refl _ _).alloc (Nat.le_refl _) _⟩
  ·(have d1:decide (B<=4096-A)=false:=by simpa using h1);rw[decide_eq_false (p:=0<=A/\A<4096/\1<=B/\A+B<=4096/\W=0) (fun h=>h1 (by omega))];clear h1;(go_enter func193,ntmps193);(go_wp2_with (go_at_call 48;refine(hpk _).mono ?_;rintro e w1 ⟨rfl,hw1⟩;obtain rfl:=hw1.symm));go_ret;exact⟨by first|rfl|simp,(Below.refl _ _).alloc (Nat.le_refl _) _⟩
 ·have d0:decide (1<=B)=false:=by simpa using h0
  rw[decide_eq_false (p:=0<=A/\A<4096/\1<=B/\A+B<=4096/\W=0) (fun h=>h0 (by omega))];clear h0;go_enter func193,ntmps193
  go_wp2_with (go_at_call 48;refine(hpk _).mono ?_;rintro e w1 ⟨rfl,hw1⟩;obtain rfl:=hw1.symm)
  go_ret;exact⟨by first|rfl|simp,(Below.refl _ _).alloc (Nat.le_refl _) _⟩
theorem MN(gu:Nat)(K A B W:Int)(w:World)(ha:¬(0<=A/\A<4096)):Calls prog 193 #[.agg #[.int .i64 K,.int .i64 A,.int .i64 B,.int .u64 W],.pointer (some ⟨gu,0,none⟩)] w fun e w'=>e=.returned (.bool (decide (0<=A/\A<4096/\1<=B/\A+B<=4096/\W=0)))/\Below w.heap.size w w':=by
 have hpk:=BU A;rw[show AP A=false by simp only[AP,Bool.and_eq_false_iff,decide_eq_false_iff_not];omega] at hpk;rw[decide_eq_false (p:=0<=A/\A<4096/\1<=B/\A+B<=4096/\W=0) (fun h=>ha ⟨h.1,h.2.1⟩)];clear ha;go_enter func193,ntmps193
 go_wp2_with (go_at_call 48;refine(hpk _).mono ?_;rintro e w1 ⟨rfl,hw1⟩;obtain rfl:=hw1.symm)
 go_ret;exact⟨by first|rfl|simp,(Below.refl _ _).alloc (Nat.le_refl _) _⟩
theorem JZ(gu:Nat)(K A B W:Int)(a1:Option Addr)(n1 c1:Nat)(w:World)(hn1:n1<=8192)(hn2:n1%16=0)(hg:gu<w.heap.size)(q0:w.cell? ⟨gu,0,none⟩=some (.slice a1 n1 c1)):Calls prog 196 #[.agg #[.int .i64 K,.int .i64 A,.int .i64 B,.int .u64 W],.pointer (some ⟨gu,0,none⟩)] w fun e w'=>e=.returned (.bool (decide (0<=A/\A<(n1:Int)/16/\B=0/\W=0)))/\Below w.heap.size w w':=by
 obtain⟨wb,hwb⟩:∃wb,wb=w.alloc (.cells #[.int .i64 K,.int .i64 A,.int .i64 B,.int .u64 W] 203):=⟨_,rfl⟩
 have hbb:Below w.heap.size w wb:=by rw[hwb];exact(Below.refl _ _).alloc (Nat.le_refl _) _
 have hzb:wb.heap.size=w.heap.size+1:=by rw[hwb];simp
 have HK:Hid (∀wX,Below wb.heap.size wb wX->wX.cell? ⟨gu,0,none⟩=some (.slice a1 n1 c1)/\(wX.cell? ⟨w.heap.size,0,none⟩=some (.int .i64 K)/\wX.cell? ⟨w.heap.size,1,none⟩=some (.int .i64 A)/\wX.cell? ⟨w.heap.size,2,none⟩=some (.int .i64 B)/\wX.cell? ⟨w.heap.size,3,none⟩=some (.int .u64 W))):=fun wX hX=>by
  refine⟨(hX.cell (by simp;omega)).trans ((hbb.cell hg).trans q0),?_,?_,?_,?_⟩;iterate 4 (exact(hX.cell (by simp;omega)).trans (by rw[hwb];simp[go_sem]))
 have hhf:=Jk a1 n1 c1 A hn1 hn2;have HWB:Hid (wb=_):=hwb;have HBB:Hid (Below w.heap.size w wb):=hbb;clear hwb hbb hzb q0;by_cases h0:0<=A/\A<(n1:Int)/16
 ·rw[decide_eq_true h0] at hhf;by_cases h1:B=0
  ·have D1:Hid ((B==0)=true):=(by simpa using h1:(B==0)=true);by_cases h2:W=0
   ·have D2:Hid ((W==0)=true):=(by simpa using h2:(W==0)=true);rw[decide_eq_true (p:=0<=A/\A<(n1:Int)/16/\B=0/\W=0) (by omega)];clear h1 h2;(go_enter func196,ntmps196);(go_wp2_with fail);rw[<- HWB.out];have d1:=D1.out;have d2:=D2.out;refine wp_region_held_drew (S:=(fun wX=>wX.cell? ⟨gu,0,none⟩=some (.slice a1 n1 c1)/\(wX.cell? ⟨w.heap.size,0,none⟩=some (.int .i64 K)/\wX.cell? ⟨w.heap.size,1,none⟩=some (.int .i64 A)/\wX.cell? ⟨w.heap.size,2,none⟩=some (.int .i64 B)/\wX.cell? ⟨w.heap.size,3,none⟩=some (.int .u64 W)))) (by kernel_rfl) (HK.out _ ((Below.refl _ _).drew)) (fun hHeld=>?_);refine tk 0 ?_;refine tk 1 ?_;refine tk 2 ?_;refine tk 3 ?_;refine tk 4 ?_;refine tk 5 ?_;refine wpAnyH_ready (rs:=[6]) (by kernel_rfl) (by simp) ?_;refine AllReadyH.cons rfl (fun K hK=>?_) AllReadyH.nil;go_simp;(go_at_call 127);refine(hhf _).mono ?_;rintro e w1 ⟨rfl,hb1⟩;(go_wp2_with fail);refine hK.out _ _ (by refine HK.out _ ?_;exact(Below.refl _ _).drew.trans (hb1.mono (by simp))) (fun hHeld2=>?_);clear hK K;refine tk 7 ?_;refine tk 8 ?_;refine tk 9 ?_;refine tk 10 ?_;refine tk 11 ?_;refine tk 12 ?_;refine tk 13 ?_;refine tk 14 ?_;refine tk 15 ?_;refine tk 16 ?_;refine tk 17 ?_;refine wpAnyH_done (by kernel_rfl) ?_ _;(go_wp2_with fail);go_ret;refine⟨by first|rfl|simp,HBB.out.trans (Below.mono ?_ HBB.out.size)⟩;exact(Below.refl _ _).drew.trans (hb1.mono (by simp))
   ·have D2:Hid ((W==0)=false):=(by simpa using h2:(W==0)=false);rw[decide_eq_false (p:=0<=A/\A<(n1:Int)/16/\B=0/\W=0) (fun h=>h2 (by omega))];clear h2;clear h1;(go_enter func196,ntmps196);(go_wp2_with fail);rw[<- HWB.out];have d1:=D1.out;have d2:=D2.out;refine wp_region_held_drew (S:=(fun wX=>wX.cell? ⟨gu,0,none⟩=some (.slice a1 n1 c1)/\(wX.cell? ⟨w.heap.size,0,none⟩=some (.int .i64 K)/\wX.cell? ⟨w.heap.size,1,none⟩=some (.int .i64 A)/\wX.cell? ⟨w.heap.size,2,none⟩=some (.int .i64 B)/\wX.cell? ⟨w.heap.size,3,none⟩=some (.int .u64 W)))) (by kernel_rfl) (HK.out _ ((Below.refl _ _).drew)) (fun hHeld=>?_);refine tk 0 ?_;refine tk 1 ?_;refine tk 2 ?_;refine tk 3 ?_;refine tk 4 ?_;refine tk 5 ?_;refine wpAnyH_ready (rs:=[6]) (by kernel_rfl) (by simp) ?_;refine AllReadyH.cons rfl (fun K hK=>?_) AllReadyH.nil;go_simp;(go_at_call 127);refine(hhf _).mono ?_;rintro e w1 ⟨rfl,hb1⟩;(go_wp2_with fail);refine hK.out _ _ (by refine HK.out _ ?_;exact(Below.refl _ _).drew.trans (hb1.mono (by simp))) (fun hHeld2=>?_);clear hK K;refine tk 7 ?_;refine tk 8 ?_;refine tk 9 ?_;refine tk 10 ?_;refine tk 11 ?_;refine tk 12 ?_;refine tk 13 ?_;refine tk 14 ?_;refine tk 15 ?_;refine tk 16 ?_;refine tk 17 ?_;refine wpAnyH_done (by kernel_rfl) ?_ _;(go_wp2_with fail);go_ret;refine⟨by first|rfl|simp,HBB.out.trans (Below.mono ?_ HBB.out.size)⟩;exact(Below.refl _ _).drew.trans (hb1.mono (by simp))
  ·have D1:Hid ((B==0)=false):=(by simpa using h1:(B==0)=false);rw[decide_eq_false (p:=0<=A/\A<(n1:Int)/16/\B=0/\W=0) (fun h=>h1 (by omega))];clear h1;(go_enter func196,ntmps196);(go_wp2_with fail);rw[<- HWB.out];have d1:=D1.out;refine wp_region_held_drew (S:=(fun wX=>wX.cell? ⟨gu,0,none⟩=some (.slice a1 n1 c1)/\(wX.cell? ⟨w.heap.size,0,none⟩=some (.int .i64 K)/\wX.cell? ⟨w.heap.size,1,none⟩=some (.int .i64 A)/\wX.cell? ⟨w.heap.size,2,none⟩=some (.int .i64 B)/\wX.cell? ⟨w.heap.size,3,none⟩=some (.int .u64 W)))) (by kernel_rfl) (HK.out _ ((Below.refl _ _).drew)) (fun hHeld=>?_);refine tk 0 ?_;refine tk 1 ?_;refine tk 2 ?_;refine tk 3 ?_;refine tk 4 ?_;refine tk 5 ?_;refine wpAnyH_ready (rs:=[6]) (by kernel_rfl) (by simp) ?_;refine AllReadyH.cons rfl (fun K hK=>?_) AllReadyH.nil;go_simp;(go_at_call 127);refine(hhf _).mono ?_;rintro e w1 ⟨rfl,hb1⟩;(go_wp2_with fail);refine hK.out _ _ (by refine HK.out _ ?_;exact(Below.refl _ _).drew.trans (hb1.mono (by simp))) (fun hHeld2=>?_);clear hK K;refine tk 7 ?_;refine tk 8 ?_;refine tk 9 ?_;refine tk 10 ?_;refine tk 11 ?_;refine tk 12 ?_;refine sk 13 ?_;refine sk 14 ?_;refine sk 15 ?_;refine tk 16 ?_;refine tk 17 ?_;refine wpAnyH_done (by kernel_rfl) ?_ _;(go_wp2_with fail);go_ret;refine⟨by first|rfl|simp,HBB.out.trans (Below.mono ?_ HBB.out.size)⟩;exact(Below.refl _ _).drew.trans (hb1.mono (by simp))
 ·rw[decide_eq_false h0] at hhf;rw[decide_eq_false (p:=0<=A/\A<(n1:Int)/16/\B=0/\W=0) (fun h=>h0 (by omega))];clear h0;go_enter func196,ntmps196
  go_wp2_with fail
  rw[<- HWB.out];refine wp_region_held_drew (S:=(fun wX=>wX.cell? ⟨gu,0,none⟩=some (.slice a1 n1 c1)/\(wX.cell? ⟨w.heap.size,0,none⟩=some (.int .i64 K)/\wX.cell? ⟨w.heap.size,1,none⟩=some (.int .i64 A)/\wX.cell? ⟨w.heap.size,2,none⟩=some (.int .i64 B)/\wX.cell? ⟨w.heap.size,3,none⟩=some (.int .u64 W)))) (by kernel_rfl) (HK.out _ ((Below.refl _ _).drew)) (fun hHeld=>?_);refine tk 0 ?_;refine tk 1 ?_;refine tk 2 ?_;refine tk 3 ?_;refine tk 4 ?_;refine tk 5 ?_;refine wpAnyH_ready (rs:=[6]) (by kernel_rfl) (by simp) ?_;refine AllReadyH.cons rfl (fun K hK=>?_) AllReadyH.nil;go_simp;go_at_call 127
  refine(hhf _).mono ?_;rintro e w1 ⟨rfl,hb1⟩;go_wp2_with fail
  refine hK.out _ _ (by refine HK.out _ ?_;exact(Below.refl _ _).drew.trans (hb1.mono (by simp))) (fun hHeld2=>?_);clear hK K;refine tk 7 ?_;refine sk 8 ?_;refine sk 9 ?_;refine sk 10 ?_;refine tk 11 ?_;refine tk 12 ?_;refine sk 13 ?_;refine sk 14 ?_;refine sk 15 ?_;refine tk 16 ?_;refine tk 17 ?_;refine wpAnyH_done (by kernel_rfl) ?_ _;go_wp2_with fail
  go_ret;refine⟨by first|rfl|simp,HBB.out.trans (Below.mono ?_ HBB.out.size)⟩;exact(Below.refl _ _).drew.trans (hb1.mono (by simp))
end Go.Proofs.YtnmhkgmmpkjjeabGreat
