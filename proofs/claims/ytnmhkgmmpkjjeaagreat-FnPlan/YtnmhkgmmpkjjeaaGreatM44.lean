import Derived.Test.YtnmhkgmmpkjjeaaGreatM43
namespace Go.Proofs.YtnmhkgmmpkjjeaaGreat
open ChangeShapes WideShapes ChangeAt RowKit Proofs.Tryz
set_option linter.all false
set_option maxRecDepth 100000
set_option maxHeartbeats 4000000
attribute [local go_sem ↓] wp_at_zero wp_at_succ
theorem QF(a:Option Addr)(m c:Nat)(o:Int)(hm:m<=8192)(hm2:m%16=0)(w:World):Calls prog 155 #[.agg #[.slice a m c],.int .i64 o] w (AM w (.bool (decide (0<=o/\o<(m:Int)/16)))):=by
 by_cases ho:0<=o
 ·have:=Ey a m c o ((m:Int)/16) (by omega) ho hm w;rw[show decide (0<=o/\o<(m:Int)/16)=decide (o<(m:Int)/16) by simp[ho]];exact this
 ·have h0:decide (0<=o)=false:=decide_eq_false ho;rw[decide_eq_false (p:=0<=o/\o<(m:Int)/16) (fun h=>ho h.1)];clear ho;go_enter func155,ntmps155
  go_wp2
  go_ret;exact⟨rfl,AO⟩
theorem SY(A B W:Int)(w:World):Calls prog 217 #[.agg #[.int .i64 1,.int .i64 A,.int .i64 B,.int .u64 W]] w (AM w (.iface 324 (.agg #[.int .i64 1,.int .i64 A,.int .i64 B,.int .u64 W]))):=by
 go_enter func217,ntmps217
 go_wp2_with fail
 go_ret;exact⟨rfl,AO⟩
theorem TM(A B W:Int)(w:World):Calls prog 217 #[.agg #[.int .i64 2,.int .i64 A,.int .i64 B,.int .u64 W]] w (AM w (.iface 325 (.agg #[.int .i64 2,.int .i64 A,.int .i64 B,.int .u64 W]))):=by
 go_enter func217,ntmps217
 go_wp2_with fail
 go_ret;exact⟨rfl,AO⟩
theorem Si(A B W:Int)(w:World):Calls prog 217 #[.agg #[.int .i64 3,.int .i64 A,.int .i64 B,.int .u64 W]] w (AM w (.iface 326 (.agg #[.int .i64 3,.int .i64 A,.int .i64 B,.int .u64 W]))):=by
 go_enter func217,ntmps217
 go_wp2_with fail
 go_ret;exact⟨rfl,AO⟩
theorem Ss(A B W:Int)(w:World):Calls prog 217 #[.agg #[.int .i64 4,.int .i64 A,.int .i64 B,.int .u64 W]] w (AM w (.iface 327 (.agg #[.int .i64 4,.int .i64 A,.int .i64 B,.int .u64 W]))):=by
 go_enter func217,ntmps217
 go_wp2_with fail
 go_ret;exact⟨rfl,AO⟩
theorem Pn(gu:Nat)(K A B W:Int)(a1 a3:Option Addr)(n1 c1 n3 c3:Nat)(w:World)(hg:gu<w.heap.size)(q0:w.cell? ⟨gu,0,none⟩=some (.slice a1 n1 c1))(q2:w.cell? ⟨gu,2,none⟩=some (.slice a3 n3 c3)):Calls prog 295 #[.agg #[.int .i64 K,.int .i64 A,.int .i64 B,.int .u64 W],.pointer (some ⟨gu,0,none⟩)] w (AM w (.bool (decide (0<=A/\A<(n1:Int)/\B=0/\(n3:Int)<10000)))):=by
 by_cases h0:0<=A
 ·by_cases h1:A<(n1:Int)
  ·by_cases h2:B=0
   ·by_cases h3:(n3:Int)<10000
    ·rw[decide_eq_true (p:=0<=A/\A<(n1:Int)/\B=0/\(n3:Int)<10000) (by omega)];(go_enter func295,ntmps295);(go_wp2_with fail);(go_quiet (fail));(go_wp2_with fail);go_ret;exact⟨by first|rfl|simp,CY AO _⟩
    ·(have d3:decide ((n3:Int)<10000)=false:=by simpa using h3);rw[decide_eq_false (p:=0<=A/\A<(n1:Int)/\B=0/\(n3:Int)<10000) (fun h=>h3 (by omega))];clear h3;(go_enter func295,ntmps295);(go_wp2_with fail);(go_quiet (fail));(go_wp2_with fail);go_ret;exact⟨by first|rfl|simp,CY AO _⟩
   ·(have d2:(B==0)=false:=by simpa using h2);rw[decide_eq_false (p:=0<=A/\A<(n1:Int)/\B=0/\(n3:Int)<10000) (fun h=>h2 (by omega))];clear h2;(go_enter func295,ntmps295);(go_wp2_with fail);(go_quiet (fail));(go_wp2_with fail);go_ret;exact⟨by first|rfl|simp,CY AO _⟩
  ·(have d1:decide (A<(n1:Int))=false:=by simpa using h1);rw[decide_eq_false (p:=0<=A/\A<(n1:Int)/\B=0/\(n3:Int)<10000) (fun h=>h1 (by omega))];clear h1;(go_enter func295,ntmps295);(go_wp2_with fail);(go_quiet (fail));(go_wp2_with fail);go_ret;exact⟨by first|rfl|simp,CY AO _⟩
 ·have d0:decide (0<=A)=false:=by simpa using h0
  rw[decide_eq_false (p:=0<=A/\A<(n1:Int)/\B=0/\(n3:Int)<10000) (fun h=>h0 (by omega))];clear h0;go_enter func295,ntmps295
  go_wp2_with fail
  go_quiet (fail)
  go_wp2_with fail
  go_ret;exact⟨by first|rfl|simp,CY AO _⟩
theorem MP(gu:Nat)(K A B W:Int)(w:World)  : Calls prog 297 #[.agg #[.int .i64 K,.int .i64 A,.int .i64 B,.int .u64 W],.pointer (some ⟨gu,0,none⟩)] w (AM w (.bool (decide (A=0/\B=0/\W=0)))):=by
 by_cases h0:A=0
 ·by_cases h1:B=0
  ·by_cases h2:W=0
   ·rw[decide_eq_true (p:=A=0/\B=0/\W=0) (by omega)];(go_enter func297,ntmps297);(go_wp2_with fail);go_ret;exact⟨by first|rfl|simp,AO⟩
   ·(have d2:(W==0)=false:=by simpa using h2);rw[decide_eq_false (p:=A=0/\B=0/\W=0) (fun h=>h2 (by omega))];clear h2;(go_enter func297,ntmps297);(go_wp2_with fail);go_ret;exact⟨by first|rfl|simp,AO⟩
  ·(have d1:(B==0)=false:=by simpa using h1);rw[decide_eq_false (p:=A=0/\B=0/\W=0) (fun h=>h1 (by omega))];clear h1;(go_enter func297,ntmps297);(go_wp2_with fail);go_ret;exact⟨by first|rfl|simp,AO⟩
 ·have d0:(A==0)=false:=by simpa using h0
  rw[decide_eq_false (p:=A=0/\B=0/\W=0) (fun h=>h0 (by omega))];clear h0;go_enter func297,ntmps297
  go_wp2_with fail
  go_ret;exact⟨by first|rfl|simp,AO⟩
theorem TB(gu:Nat)(K A B W:Int)(w:World)(ha0:0<=A)(ha1:A<4096):Calls prog 305 #[.agg #[.int .i64 K,.int .i64 A,.int .i64 B,.int .u64 W],.pointer (some ⟨gu,0,none⟩)] w (AM w (.bool (decide (0<=A/\A<4096/\1<=B/\A+B<=4096/\W=0)))):=by
 have hpk:=I6 A;rw[show DX A=true by simp[DX,ha0,ha1]] at hpk;by_cases h0:1<=B
 ·by_cases h1:B<=4096-A
  ·by_cases h2:W=0
   ·rw[decide_eq_true (p:=0<=A/\A<4096/\1<=B/\A+B<=4096/\W=0) (by omega)];(go_enter func305,ntmps305);(go_wp2_with (go_at_call 90;refine(hpk _).mono ?_;rintro e w1 ⟨rfl,hw1⟩;obtain rfl:=hw1.symm));go_ret;exact⟨by first|rfl|simp,AO⟩
   ·(have d2:(W==0)=false:=by simpa using h2);rw[decide_eq_false (p:=0<=A/\A<4096/\1<=B/\A+B<=4096/\W=0) (fun h=>h2 (by omega))];clear h2;(go_enter func305,ntmps305);(go_wp2_with (go_at_call 90;refine(hpk _).mono ?_;rintro e w1 ⟨rfl,hw1⟩;obtain rfl:=hw1.symm));go_ret;exact⟨by first|rfl|simp,AO⟩
  ·(have d1:decide (B<=4096-A)=false:=by simpa using h1);rw[decide_eq_false (p:=0<=A/\A<4096/\1<=B/\A+B<=4096/\W=0) (fun h=>h1 (by omega))];clear h1;(go_enter func305,ntmps305);(go_wp2_with (go_at_call 90;refine(hpk _).mono ?_;rintro e w1 ⟨rfl,hw1⟩;obtain rfl:=hw1.symm));go_ret;exact⟨by first|rfl|simp,AO⟩
 ·have d0:decide (1<=B)=false:=by simpa using h0
  rw[decide_eq_false (p:=0<=A/\A<4096/\1<=B/\A+B<=4096/\W=0) (fun h=>h0 (by omega))];clear h0;go_enter func305,ntmps305
  go_wp2_with (go_at_call 90;refine(hpk _).mono ?_;rintro e w1 ⟨rfl,hw1⟩;obtain rfl:=hw1.symm)
  go_ret;exact⟨by first|rfl|simp,AO⟩
theorem Qu(gu:Nat)(K A B W:Int)(a1:Option Addr)(n1 c1:Nat)(w:World)(hn1:n1<=8192)(hn2:n1%16=0)(hg:gu<w.heap.size)(q0:w.cell? ⟨gu,0,none⟩=some (.slice a1 n1 c1)):Calls prog 308 #[.agg #[.int .i64 K,.int .i64 A,.int .i64 B,.int .u64 W],.pointer (some ⟨gu,0,none⟩)] w (AM w (.bool (decide (0<=A/\A<(n1:Int)/16/\B=0/\W=0)))):=by
 obtain⟨wb,hwb⟩:∃wb,wb=w.alloc (.cells #[.int .i64 K,.int .i64 A,.int .i64 B,.int .u64 W] 327):=⟨_,rfl⟩
 have hbb:Bl w wb:=by rw[hwb];exact AO
 have hzb:wb.heap.size=w.heap.size+1:=by rw[hwb];simp
 have HK:Hid (∀wX,Bl wb wX->wX.cell? ⟨gu,0,none⟩=some (.slice a1 n1 c1)/\(wX.cell? ⟨w.heap.size,0,none⟩=some (.int .i64 K)/\wX.cell? ⟨w.heap.size,1,none⟩=some (.int .i64 A)/\wX.cell? ⟨w.heap.size,2,none⟩=some (.int .i64 B)/\wX.cell? ⟨w.heap.size,3,none⟩=some (.int .u64 W))):=fun wX hX=>by
  refine⟨(hX.cell (by simp;omega)).trans ((hbb.cell hg).trans q0),?_,?_,?_,?_⟩;iterate 4 (exact(hX.cell (by simp;omega)).trans (by rw[hwb];simp[go_sem]))
 have hhf:=QF a1 n1 c1 A hn1 hn2;have HWB:=A5 hwb;have HBB:=A5 hbb;clear hwb hbb hzb q0;by_cases h0:0<=A/\A<(n1:Int)/16
 ·rw[decide_eq_true h0] at hhf;by_cases h1:B=0
  ·have D1:Hid ((B==0)=true):=(by simpa using h1:(B==0)=true);by_cases h2:W=0
   ·have D2:Hid ((W==0)=true):=(by simpa using h2:(W==0)=true);rw[decide_eq_true (p:=0<=A/\A<(n1:Int)/16/\B=0/\W=0) (by omega)];clear h1 h2;(go_enter func308,ntmps308);(go_wp2_with fail);rw[<- HWB.out];have d1:=D1.out;have d2:=D2.out;refine wp_region_held_drew (S:=(fun wX=>wX.cell? ⟨gu,0,none⟩=some (.slice a1 n1 c1)/\(wX.cell? ⟨w.heap.size,0,none⟩=some (.int .i64 K)/\wX.cell? ⟨w.heap.size,1,none⟩=some (.int .i64 A)/\wX.cell? ⟨w.heap.size,2,none⟩=some (.int .i64 B)/\wX.cell? ⟨w.heap.size,3,none⟩=some (.int .u64 W)))) (by kernel_rfl) (HK.out _ (AH.drew)) (fun hHeld=>?_);refine tk 0 ?_;refine tk 1 ?_;refine tk 2 ?_;refine tk 3 ?_;refine tk 4 ?_;refine tk 5 ?_;(refine Aj 6 fun K hK=>?_);go_simp;(go_at_call 155);refine(hhf _).mono ?_;rintro e w1 ⟨rfl,hb1⟩;(go_wp2_with fail);refine hK.out _ _ (by refine HK.out _ ?_;exact AH.drew.trans (hb1.mono (by simp))) (fun hHeld2=>?_);clear hK K;refine tk 7 ?_;refine tk 8 ?_;refine tk 9 ?_;refine tk 10 ?_;refine tk 11 ?_;refine tk 12 ?_;refine tk 13 ?_;refine tk 14 ?_;refine tk 15 ?_;refine tk 16 ?_;refine tk 17 ?_;refine AZ ?_;(go_wp2_with fail);go_ret;refine⟨by first|rfl|simp,HBB.out.trans (Below.mono ?_ HBB.out.size)⟩;exact AH.drew.trans (hb1.mono (by simp))
   ·have D2:Hid ((W==0)=false):=(by simpa using h2:(W==0)=false);rw[decide_eq_false (p:=0<=A/\A<(n1:Int)/16/\B=0/\W=0) (fun h=>h2 (by omega))];clear h2;clear h1;(go_enter func308,ntmps308);(go_wp2_with fail);rw[<- HWB.out];have d1:=D1.out;have d2:=D2.out;refine wp_region_held_drew (S:=(fun wX=>wX.cell? ⟨gu,0,none⟩=some (.slice a1 n1 c1)/\(wX.cell? ⟨w.heap.size,0,none⟩=some (.int .i64 K)/\wX.cell? ⟨w.heap.size,1,none⟩=some (.int .i64 A)/\wX.cell? ⟨w.heap.size,2,none⟩=some (.int .i64 B)/\wX.cell? ⟨w.heap.size,3,none⟩=some (.int .u64 W)))) (by kernel_rfl) (HK.out _ (AH.drew)) (fun hHeld=>?_);refine tk 0 ?_;refine tk 1 ?_;refine tk 2 ?_;refine tk 3 ?_;refine tk 4 ?_;refine tk 5 ?_;(refine Aj 6 fun K hK=>?_);go_simp;(go_at_call 155);refine(hhf _).mono ?_;rintro e w1 ⟨rfl,hb1⟩;(go_wp2_with fail);refine hK.out _ _ (by refine HK.out _ ?_;exact AH.drew.trans (hb1.mono (by simp))) (fun hHeld2=>?_);clear hK K;refine tk 7 ?_;refine tk 8 ?_;refine tk 9 ?_;refine tk 10 ?_;refine tk 11 ?_;refine tk 12 ?_;refine tk 13 ?_;refine tk 14 ?_;refine tk 15 ?_;refine tk 16 ?_;refine tk 17 ?_;refine AZ ?_;(go_wp2_with fail);go_ret;refine⟨by first|rfl|simp,HBB.out.trans (Below.mono ?_ HBB.out.size)⟩;exact AH.drew.trans (hb1.mono (by simp))
  ·have D1:Hid ((B==0)=false):=(by simpa using h1:(B==0)=false);rw[decide_eq_false (p:=0<=A/\A<(n1:Int)/16/\B=0/\W=0) (fun h=>h1 (by omega))];clear h1;(go_enter func308,ntmps308);(go_wp2_with fail);rw[<- HWB.out];have d1:=D1.out;refine wp_region_held_drew (S:=(fun wX=>wX.cell? ⟨gu,0,none⟩=some (.slice a1 n1 c1)/\(wX.cell? ⟨w.heap.size,0,none⟩=some (.int .i64 K)/\wX.cell? ⟨w.heap.size,1,none⟩=some (.int .i64 A)/\wX.cell? ⟨w.heap.size,2,none⟩=some (.int .i64 B)/\wX.cell? ⟨w.heap.size,3,none⟩=some (.int .u64 W)))) (by kernel_rfl) (HK.out _ (AH.drew)) (fun hHeld=>?_);refine tk 0 ?_;refine tk 1 ?_;refine tk 2 ?_;refine tk 3 ?_;refine tk 4 ?_;refine tk 5 ?_;(refine Aj 6 fun K hK=>?_);go_simp;(go_at_call 155);refine(hhf _).mono ?_;rintro e w1 ⟨rfl,hb1⟩;(go_wp2_with fail);refine hK.out _ _ (by refine HK.out _ ?_;exact AH.drew.trans (hb1.mono (by simp))) (fun hHeld2=>?_);clear hK K;refine tk 7 ?_;refine tk 8 ?_;refine tk 9 ?_;refine tk 10 ?_;refine tk 11 ?_;refine tk 12 ?_;refine sk 13 ?_;refine sk 14 ?_;refine sk 15 ?_;refine tk 16 ?_;refine tk 17 ?_;refine AZ ?_;(go_wp2_with fail);go_ret;refine⟨by first|rfl|simp,HBB.out.trans (Below.mono ?_ HBB.out.size)⟩;exact AH.drew.trans (hb1.mono (by simp))
 ·rw[decide_eq_false h0] at hhf;rw[decide_eq_false (p:=0<=A/\A<(n1:Int)/16/\B=0/\W=0) (fun h=>h0 (by omega))];clear h0;go_enter func308,ntmps308
  go_wp2_with fail
  rw[<- HWB.out];refine wp_region_held_drew (S:=(fun wX=>wX.cell? ⟨gu,0,none⟩=some (.slice a1 n1 c1)/\(wX.cell? ⟨w.heap.size,0,none⟩=some (.int .i64 K)/\wX.cell? ⟨w.heap.size,1,none⟩=some (.int .i64 A)/\wX.cell? ⟨w.heap.size,2,none⟩=some (.int .i64 B)/\wX.cell? ⟨w.heap.size,3,none⟩=some (.int .u64 W)))) (by kernel_rfl) (HK.out _ (AH.drew)) (fun hHeld=>?_);refine tk 0 ?_;refine tk 1 ?_;refine tk 2 ?_;refine tk 3 ?_;refine tk 4 ?_;refine tk 5 ?_;refine Aj 6 fun K hK=>?_
  go_simp;go_at_call 155
  refine(hhf _).mono ?_;rintro e w1 ⟨rfl,hb1⟩;go_wp2_with fail
  refine hK.out _ _ (by refine HK.out _ ?_;exact AH.drew.trans (hb1.mono (by simp))) (fun hHeld2=>?_);clear hK K;refine tk 7 ?_;refine sk 8 ?_;refine sk 9 ?_;refine sk 10 ?_;refine tk 11 ?_;refine tk 12 ?_;refine sk 13 ?_;refine sk 14 ?_;refine sk 15 ?_;refine tk 16 ?_;refine tk 17 ?_;refine AZ ?_;go_wp2_with fail
  go_ret;refine⟨by first|rfl|simp,HBB.out.trans (Below.mono ?_ HBB.out.size)⟩;exact AH.drew.trans (hb1.mono (by simp))
theorem A8.fullX{α:Type}{E:Dw α}{w:World}{b g cap:Nat}{xs:List α}(h:A8 E w b (.slice (some ⟨g,0,none⟩) xs.length cap) xs):b<=g/\xs.length<=cap/\cap<=maxLen/\∃f,w.rowIs g E.T (cap*E.sz) f/\∀i,i<xs.length->∀j,j<E.sz->f (i*E.sz+j)=CM E xs i j:=by
 rcases h.2 with⟨e,_⟩|⟨g',cap',cur,e,hb,hg,h1,h2,h3,h4⟩
 ·cases e
 ·simp only[Value.slice.injEq,Option.some.injEq,Addr.mk.injEq] at e;obtain⟨⟨rfl,_⟩,_,rfl⟩:=e;refine⟨hb,h1,h2,fun i=>cur.getD i (.bool false),⟨cur,hg,h3,fun i hi=>?_⟩,fun i hi j hj=>?_⟩
  ·rw[Array.getElem?_eq_getElem (by rw[h3];exact hi)];simp[Array.getD_eq_getD_getElem?,Array.getElem?_eq_getElem (show i<cur.size by rw[h3];exact hi)]
  ·have hu:=F4 E xs i hi j hj;rw[<- h4,List.getElem?_take,if_pos (KS hi hj)] at hu;simp only[Array.getElem?_toList] at hu;simp[Array.getD_eq_getD_getElem?,hu,CM]
theorem Lh{b:Nat}{t:TypeId}{n:Nat}:∀(vs:List Value) (o:Nat) (w:World) (f:Nat->Value),w.rowIs b t n f->(w.setCells b o vs).rowIs b t n (fun j=>if o<=j/\j<o+vs.length then vs.getD (j-o) (.bool false) else f j)
 | [],o,w,f,h=>by
  refine h.congr (fun i hi=>?_);rw[if_neg (by simp only[List.length_nil];omega)]
 | v :: r,o,w,f,h=>by
  rw[World.setCells];refine(Lh r (o+1) _ _ (h.set o v)).congr (fun i hi=>?_);by_cases h1:o+1<=i/\i<o+1+r.length
  ·rw[if_pos h1,if_pos (by simp;omega)];(obtain⟨d,hd⟩:∃d,i-o=d+1:=⟨i-o-1,by omega⟩);rw[hd,show i-(o+1)=d by omega];simp
  ·rw[if_neg h1];by_cases h2:i=o
   ·rw[if_pos h2,if_pos (by simp;omega),h2];simp
   ·rw[if_neg h2,if_neg (by simp;omega)]
theorem Km(b:Nat):∀(vs:List Value) (o:Nat) (w:World),w.grownBy (w.setCells b o vs) (some b)
 | [],o,w=>⟨rfl,rfl,rfl,Nat.le_refl _,fun _ _ _=>rfl⟩
 | v :: r,o,w=>by
  rw[World.setCells];have h:=Km b r (o+1) (w.setCell ⟨b,o,none⟩ v);refine⟨h.os,h.tape,h.output,by have:=h.size;simpa using this,fun k hk hn=>?_⟩;rw[h.block k (by simpa using hk) hn];exact Below.heap_setCell _ _ _ _ (fun e=>hn (by simpa using e))
def Vh (zs:List Int):List Value:=zs.map (fun x=>.int .u64 x)
theorem WP(zs:List Int):∀v∈Vh zs,v.oneCell'=true:=by
 intro v hv;unfold Vh at hv;rw[List.mem_map] at hv;obtain⟨x,_,rfl⟩:=hv;rfl
theorem Uw(zs:List Int)(j:Nat)(hj:j<zs.length):(Vh zs)[j]?=some (.int .u64 (zs.getD j 0)):=by
 unfold Vh;rw[List.getElem?_map,List.getElem?_eq_getElem hj,List.getD_eq_getElem?_getD,List.getElem?_eq_getElem hj];rfl
theorem VG(f:Value)(w:World):Calls prog 302 #[.slice none 0 0,f] w fun e w'=>e=.returned (.int .i64 (-1))/\w'=w:=by
 go_enter func302,ntmps302
 go_wp2_with fail
 go_loopw [8] (fun i wr=>i=.int .i64 0/\wr=w) (fun _ _=>0)
 case atStart=>exact⟨rfl,rfl⟩
 case round =>
  obtain⟨rfl,rfl⟩:=hrel;go_wp2_with fail
  go_ret;exact⟨rfl,rfl⟩
theorem TD(f:Value)(w:World):Calls prog 298 #[.slice none 0 0,f] w fun e w'=>e=.returned (.slice none 0 0)/\w'=w:=by
 have t1:=VG f w;go_enter func298,ntmps298
 go_wp2_with fail
 refine t1.mono ?_;rintro e w1 ⟨rfl,rfl⟩;go_wp2_with fail
 go_ret;exact⟨rfl,rfl⟩
theorem Uc(f:Value)(w:World):Calls prog 303 #[.slice none 0 0,f] w fun e w'=>e=.returned (.int .i64 (-1))/\w'=w:=by
 go_enter func303,ntmps303
 go_wp2_with fail
 go_loopw [8] (fun i wr=>i=.int .i64 0/\wr=w) (fun _ _=>0)
 case atStart=>exact⟨rfl,rfl⟩
 case round =>
  obtain⟨rfl,rfl⟩:=hrel;go_wp2_with fail
  go_ret;exact⟨rfl,rfl⟩
theorem T9(f:Value)(w:World):Calls prog 300 #[.slice none 0 0,f] w fun e w'=>e=.returned (.slice none 0 0)/\w'=w:=by
 have t1:=Uc f w;go_enter func300,ntmps300
 go_wp2_with fail
 refine t1.mono ?_;rintro e w1 ⟨rfl,rfl⟩;go_wp2_with fail
 go_ret;exact⟨rfl,rfl⟩
theorem XU.barrier{W w1:World}{gu b0:Nat}{s:YS}{g1 c1 g2 c2:Nat}{a3:Option Addr}{c3:Nat}{P:List BS}(h:XU W gu b0 s g1 c1 g2 c2 a3 c3 P)(hg:W.grownBy w1 (some g1))(hr:A8 AY w1 b0 (.slice (some ⟨g1,0,none⟩) s.l.length c1) s.l):XU (((w1.setCell ⟨gu,2,none⟩ (.slice none 0 0)).setCell ⟨gu,3,none⟩ (.slice none 0 0)).setCell ⟨gu,4,none⟩ (.slice none 0 0)) gu b0 ⟨s.l,s.l,0⟩ g1 c1 g2 c2 none 0 []/\BF (Py gu g1 g2 a3) W (((w1.setCell ⟨gu,2,none⟩ (.slice none 0 0)).setCell ⟨gu,3,none⟩ (.slice none 0 0)).setCell ⟨gu,4,none⟩ (.slice none 0 0)):=by
 have hlt:=h.lt;have hbu:w1.heap[gu]?=W.heap[gu]?:=hg.block gu hlt (fun e=>h.nu1 (by injection e));have c:∀i,w1.cell? ⟨gu,i,none⟩=W.cell? ⟨gu,i,none⟩:=fun i=>World.cell?_of_block hbu
 have kp:∀{x n c:Nat} {xs:List Int} (w:World) (i:Nat) (u:Value),A8 AY w b0 (.slice (some ⟨x,0,none⟩) n c) xs->x≠gu->A8 AY (w.setCell ⟨gu,i,none⟩ u) b0 (.slice (some ⟨x,0,none⟩) n c) xs:=fun w i u hr hk=>A8.kept hr (B7 (World.grownBy.refl _ _) i u) (fun k hk2 e=>hk (by injection hk2 with e1;injection e with e2;exact e1.trans e2))
 have r2n:=h.r2.kept hg (fun k hk e=>h.n12 (by injection hk with e1;injection e with e2;exact(e1.trans e2).symm));have ne:∀i j:Nat,i≠j->(⟨gu,i,none⟩:Addr)≠⟨gu,j,none⟩:=fun i j hij e=>hij (by injection e)
 refine⟨⟨h.lo,?_,?_,?_,?_,?_,?_,fun i=>?_,?_,?_,?_,rfl,rfl,h.n12,h.nu1,h.nu2,fun k hk=>(by cases hk)⟩,?_⟩
 ·simp;exact Nat.lt_of_lt_of_le hlt hg.size
 ·rw[World.cell?_setCell_other _ _ _ _ (ne _ _ (by decide)),World.cell?_setCell_other _ _ _ _ (ne _ _ (by decide)),World.cell?_setCell_other _ _ _ _ (ne _ _ (by decide)),c 0,h.q0,h.ml]
 ·rw[World.cell?_setCell_other _ _ _ _ (ne _ _ (by decide)),World.cell?_setCell_other _ _ _ _ (ne _ _ (by decide)),World.cell?_setCell_other _ _ _ _ (ne _ _ (by decide)),c 1];exact h.q1
 ·rw[World.cell?_setCell_other _ _ _ _ (ne _ _ (by decide)),World.cell?_setCell_other _ _ _ _ (ne _ _ (by decide))];exact World.cell?_setCell_same _ _ _ ((c 2).trans h.q2)
 ·rw[World.cell?_setCell_other _ _ _ _ (ne _ _ (by decide))];exact World.cell?_setCell_same _ _ _ (by rw[World.cell?_setCell_other _ _ _ _ (ne _ _ (by decide))];exact(c 3).trans h.q3)
 ·exact World.cell?_setCell_same _ _ _ (by rw[World.cell?_setCell_other _ _ _ _ (ne _ _ (by decide)),World.cell?_setCell_other _ _ _ _ (ne _ _ (by decide))];exact(c 4).trans h.q4)
 ·rw[World.frozen?_setCell,World.frozen?_setCell,World.frozen?_setCell];exact(World.frozen?_of_block (a:=⟨gu,i,none⟩) hbu).trans (h.fz i)
 ·exact kp _ 4 _ (kp _ 3 _ (kp _ 2 _ hr h.nu1.symm) h.nu1.symm) h.nu1.symm
 ·exact kp _ 4 _ (kp _ 3 _ (kp _ 2 _ r2n h.nu2.symm) h.nu2.symm) h.nu2.symm
 ·exact⟨by simp[AK],.inl ⟨rfl,rfl⟩⟩
 ·refine⟨hg.os,hg.tape,hg.output,by simpa using hg.size,fun k hk hn=>?_⟩;unfold Py at hn;rw[Below.heap_setCell _ _ _ _ (fun e=>hn (.inl e)),Below.heap_setCell _ _ _ _ (fun e=>hn (.inl e)),Below.heap_setCell _ _ _ _ (fun e=>hn (.inl e))];exact hg.block k hk (fun e=>hn (.inr (.inl (by injection e))))
theorem MH(gu b0:Nat)(s:YS)(g1 c1 g2 c2:Nat)(a3:Option Addr)(c3:Nat)(P:List BS)(K0 A0 B0 W0:Int)(w:World)(hml:s.l.length<=8192)(h:XU w gu b0 s g1 c1 g2 c2 a3 c3 P):Calls prog 296 #[.agg #[.int .i64 K0,.int .i64 A0,.int .i64 B0,.int .u64 W0],.pointer (some ⟨gu,0,none⟩)] w fun e w'=>e=.returned (.tuple #[])/\XU w' gu b0 ⟨s.l,s.l,0⟩ g1 c1 g2 c2 none 0 []/\BF (Py gu g1 g2 a3) w w':=by
 obtain⟨wb,hwb⟩:∃wb,wb=w.alloc (.cells #[.int .i64 K0,.int .i64 A0,.int .i64 B0,.int .u64 W0] 325):=⟨_,rfl⟩
 have hbb:Bl w wb:=by rw[hwb];exact AO
 have hub:=h.below hbb;obtain⟨hB1,hlc1,hmx1,f1,hr1,hf1⟩:=hub.r1.fullX;have hr1d:wb.drew.rowIs g1 AY.T (c1*1) f1:=hr1.drew;have hc2:=hub.r2.crow;have hml2:=h.ml;have hcw:(Vh s.l).length=s.l.length:=by unfold Vh;rw[List.length_map]
 obtain⟨w1,hw1⟩:∃w1,w1=wb.drew.setCells g1 0 (Vh s.l):=⟨_,rfl⟩
 have hcopy:∀ty,(Builtin.copy_ #[33,33] ty #[.slice (some ⟨g1,0,none⟩) s.l.length c1,.slice (some ⟨g2,0,none⟩) s.l.length c2]).run prog wb.drew=.ok (goInt s.l.length) w1:=fun ty=>by
  have hk:=run_copy_cells (P:=prog) wb.drew 33 33 ty 75 g1 0 s.l.length c1 ⟨g2,0,none⟩ s.l.length c2 (Vh s.l) underlying33 (by kernel_rfl) (by rw[hcw];simp)
   (fun j v hv=>by
    have hj:j<s.l.length:=by
     have:=(List.getElem?_eq_some_iff.1 hv).1
     rw[hcw] at this;omega
    rw[Uw _ j hj] at hv
    rw[JC]
    rw[<- hv]
    exact hc2.cells j hj)
   (fun j hj=>by
    rw[hcw] at hj
    rw[hr1d.cell (i:=0+j) (by omega)];rfl) (fun j hj=>hr1d.frozen _) (WP _)
  rw[hcw] at hk;rw[hw1];exact hk
 have hg1r:wb.grownBy w1 (some g1):=by
  rw[hw1];have h:=Km g1 (Vh s.l) 0 wb.drew;exact⟨h.os,h.tape,h.output,h.size,h.block⟩
 have hrow2:A8 AY w1 b0 (.slice (some ⟨g1,0,none⟩) s.l.length c1) s.l:=by
  have hrs:=Lh (Vh s.l) 0 wb.drew f1 hr1d;rw[<- hw1] at hrs;refine A8.of_row (N:=c1*1) rfl hB1 hrs rfl (by omega) hmx1 (fun i hi j hj=>?_);have hj0:j=0:=by have:j<1:=hj;omega
  subst hj0;have e1:i*AY.sz+0=i:=by show i*1+0=i;omega
  rw[e1,if_pos (by rw[hcw];omega),List.getD_eq_getElem?_getD,show i-0=i by omega,Uw _ i (by omega)];rfl
 have hfin:=XU.barrier hub hg1r hrow2;have HFIN:=A5 hfin;have hbk:w1.heap[gu]?=wb.heap[gu]?:=hg1r.block gu hub.lt (fun e=>hub.nu1 (by injection e));have cell1:∀i,w1.cell? ⟨gu,i,none⟩=wb.cell? ⟨gu,i,none⟩:=fun i=>World.cell?_of_block hbk
 have q2:=(cell1 2).trans hub.q2;have q3:=(cell1 3).trans hub.q3;have q4:=(cell1 4).trans hub.q4;have fzz:∀i,w1.frozen? ⟨gu,i,none⟩=false:=fun i=>(World.frozen?_of_block (a:=⟨gu,i,none⟩) hbk).trans (hub.fz i)
 have f2:=fzz 2;have f3:=fzz 3;have f4:=fzz 4;have p0:=hub.q0;rw[hml2] at p0;have HSB:Hid (wb.drew.cell? ⟨gu,0,none⟩=some (.slice (some ⟨g1,0,none⟩) s.l.length c1)/\wb.drew.cell? ⟨gu,1,none⟩=some (.slice (some ⟨g2,0,none⟩) s.l.length c2)):=⟨p0,hub.q1⟩;have HS1:Hid (w1.cell? ⟨gu,0,none⟩=some (.slice (some ⟨g1,0,none⟩) s.l.length c1)/\w1.cell? ⟨gu,1,none⟩=some (.slice (some ⟨g2,0,none⟩) s.l.length c2)):=⟨(cell1 0).trans HSB.out.1,(cell1 1).trans HSB.out.2⟩;have HWB:=A5 hwb;have HT0:Hid (BF (Py gu g1 g2 a3) w wb):=A6 (BF.of_below hbb);have d1:=TD;have d2:=T9;clear h hub hbb hwb hw1 hc2 hr1 hf1 hr1d hrow2 hg1r hbk cell1 hcw hfin fzz p0 hml2;go_enter func296,ntmps296
 go_wp2_with fail
 rw[<- HWB.out];refine wp_region_held_drew (S:=(fun wX=>wX.cell? ⟨gu,0,none⟩=some (.slice (some ⟨g1,0,none⟩) s.l.length c1)/\wX.cell? ⟨gu,1,none⟩=some (.slice (some ⟨g2,0,none⟩) s.l.length c2))) (by kernel_rfl) HSB.out (fun hHeld=>?_);refine tk 0 ?_;refine tk 1 ?_;refine tk 2 ?_;refine tk 3 ?_;refine tk 4 ?_;refine tk 5 ?_;refine tk 6 ?_;refine tk 7 ?_;refine tk 8 ?_;refine tk 9 ?_;refine Aj 10 fun K hK=>?_
 go_simp;refine hK.out _ _ HS1.out (fun hHeld5=>?_);clear hK K;refine AZ ?_;clear hHeld hHeld5 hcopy;go_wp2_with fail
 refine(d1 _ _).mono ?_;rintro e w3 ⟨rfl,rfl⟩;go_wp2_with fail
 refine(d2 _ _).mono ?_;rintro e w4 ⟨rfl,rfl⟩;go_wp2_with fail
 exact bodyPost_end (v:=.tuple #[]) (by simp[results,results296,go_sem]) rfl ⟨rfl,HFIN.out.1,HT0.out.then HFIN.out.2 (fun k _ hk=>hk)⟩
theorem ME(gu:Nat)(K A B W:Int)(w:World)(hg:gu<w.heap.size)(q3:w.cell? ⟨gu,3,none⟩=some (.slice none 0 0))(q4:w.cell? ⟨gu,4,none⟩=some (.slice none 0 0)):Calls prog 304 #[.agg #[.int .i64 K,.int .i64 A,.int .i64 B,.int .u64 W],.pointer (some ⟨gu,0,none⟩)] w (AM w (.tuple #[])):=by
 obtain⟨wb,hwb⟩:∃wb,wb=w.alloc (.cells #[.int .i64 K,.int .i64 A,.int .i64 B,.int .u64 W] 326):=⟨_,rfl⟩
 have hbb:Bl w wb:=by rw[hwb];exact AO
 have y3:=(hbb.cell (p:=⟨gu,3,none⟩) hg).trans q3;have y4:=(hbb.cell (p:=⟨gu,4,none⟩) hg).trans q4;have HWB:=A5 hwb;have HBB:=A5 hbb;clear hwb hbb;go_enter func304,ntmps304
 go_wp2_with fail
 rw[<- HWB.out];go_loopw [11] (fun i wr=>i=.int .i64 0/\wr=wb) (fun _ _=>0)
 case atStart=>exact⟨rfl,rfl⟩
 case round =>
  obtain⟨rfl,rfl⟩:=hrel;go_wp2_with fail
  go_loopw [32] (fun i wr'=>i=.int .i64 0/\wr'=wr) (fun _ _=>0)
  case atStart=>exact⟨rfl,rfl⟩
  case round =>
   obtain⟨rfl,rfl⟩:=hrel;(go_wp2_with fail);exact bodyPost_end (v:=.tuple #[]) (by simp[results,results304,go_sem]) rfl ⟨rfl,HBB.out⟩
theorem LF(gu:Nat)(K A B W:Int)(w:World):Calls prog 307 #[.agg #[.int .i64 K,.int .i64 A,.int .i64 B,.int .u64 W],.pointer (some ⟨gu,0,none⟩)] w (AM w (.tuple #[])):=by
 go_enter func307,ntmps307
 go_wp2_with fail
 exact bodyPost_end (v:=.tuple #[]) (by simp[results,results307,go_sem]) rfl ⟨rfl,AO⟩
end Go.Proofs.YtnmhkgmmpkjjeaaGreat
