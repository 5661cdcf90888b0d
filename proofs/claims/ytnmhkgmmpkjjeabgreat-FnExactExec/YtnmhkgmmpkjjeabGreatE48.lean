import Derived.Test.YtnmhkgmmpkjjeabGreatE39
import Derived.Test.YtnmhkgmmpkjjeabGreatE42
import Derived.Test.YtnmhkgmmpkjjeabGreatE43
import Derived.Test.YtnmhkgmmpkjjeabGreatE46
import Derived.Test.YtnmhkgmmpkjjeabGreatE27
import Derived.Test.YtnmhkgmmpkjjeabGreatE25
import Derived.Test.YtnmhkgmmpkjjeabGreatE47
import Derived.Lib.SmallJoins
namespace Go.Proofs.YtnmhkgmmpkjjeabGreat
open ChangeShapes WideShapes ChangeAt RowKit Proofs.Tryz
set_option linter.all false
set_option maxRecDepth 100000
set_option maxHeartbeats 4000000
theorem FA(s:SV)(M:A9)(b:Nat)(o:Bi)(w:World)(hk:H6 M)(hs:M.Small)(ho:CM o)(h:AB w b (s.mv M) M):Calls prog 14 #[.agg #[.slice s.a1 M.mem.length s.c1,.slice s.a2 M.pend.length s.c2,.slice s.a3 M.tlb.length s.c3,.slice s.a4 M.wc.length s.c4],.agg #[.int .i64 o.kind,.int .i64 o.a,.int .i64 o.b,.int .u64 o.word]] w fun e w'=>∃s':SV,e=.returned (.tuple #[.agg #[.slice s'.a1 (Bm M o).1.mem.length s'.c1,.slice s'.a2 (Bm M o).1.pend.length s'.c2,.slice s'.a3 (Bm M o).1.tlb.length s'.c3,.slice s'.a4 (Bm M o).1.wc.length s'.c4],.int .i64 (Bm M o).2])/\AB w' w.heap.size (s'.mv (Bm M o).1) (Bm M o).1/\Below w.heap.size w w':=by
 have ho1:=ho.w.1;have ho2:o.word<18446744073709551616:=by have:=ho.w.2;omega
 obtain⟨K,A,Bb,W⟩:=o;dsimp only at ho1 ho2 ⊢;cases hv:AG M with
 | false =>
  have e:Bm M ⟨K,A,Bb,W⟩=(zM,9):=by unfold Bm;rw[hv];rfl
  rw[e];exact Kt s M b K A Bb W w hs hv h
 | true =>
  have hok:=Cv.of hk hv;have e:Bm M ⟨K,A,Bb,W⟩=CP M ⟨K,A,Bb,W⟩:=by unfold Bm;rw[hv];rfl
  rw[e];cases hop:Cf M ⟨K,A,Bb,W⟩ with
  | false =>
   (have e:CP M ⟨K,A,Bb,W⟩=(M,1):=by unfold CP;rw[if_pos hop]);rw[e];exact LO s M b K A Bb W w hs hv hop h
  | true =>
   (have hno:¬Cf M ⟨K,A,Bb,W⟩=false:=by rw[hop];decide);by_cases k1:K=1
   ·subst k1;have hA:0<=A/\A<M.mem.length:=by
     have:=hop;unfold Cf at this;rw[if_pos rfl] at this;have:=of_decide_eq_true this;exact⟨this.1,this.2.1⟩
    (obtain⟨a,ha⟩:∃a:Nat,A=a:=⟨A.toNat,by omega⟩);have e:CP M ⟨1,A,Bb,W⟩=(if Ag M ⟨1,A,Bb,W⟩=0 then ⟨M.mem,M.pend++[⟨A,W⟩],M.tlb,M.wc⟩ else M,Ag M ⟨1,A,Bb,W⟩):=by
     unfold CP;rw[if_neg hno,if_pos rfl]
    rw[e];have hcod:∀wX,AB wX b (s.mv M) M->Calls prog 67 #[.agg #[.slice s.a1 M.mem.length s.c1,.slice s.a2 M.pend.length s.c2,.slice s.a3 M.tlb.length s.c3,.slice s.a4 M.wc.length s.c4],.agg #[.int .i64 1,.int .i64 A,.int .i64 Bb,.int .u64 W]] wX fun e w'=>e=.returned (.int .i64 (Ag M ⟨1,A,Bb,W⟩))/\Below wX.heap.size wX w':=fun wX hX=>by
     have:=If s M b ⟨1,A,Bb,W⟩ a W wX hs hok hv ha rfl (by omega) ho1 ho2 hX;rw[ha] at this ⊢;exact this
    by_cases hc:Ag M ⟨1,A,Bb,W⟩=0
    ·rw[if_pos hc];rw[hc] at hcod ⊢;exact IT s M b A Bb W w hs hv hop hcod h
    ·rw[if_neg hc];exact KE s M b A Bb W w hs hv hop _ hc hcod h
   ·by_cases k2:K=2
    ·subst k2;have e:CP M ⟨2,A,Bb,W⟩=(⟨AE M,[],M.tlb.filter (fun e=>!e.doom),M.wc.filter (fun e=>!e.doom)⟩,0):=by
      unfold CP;rw[if_neg hno,if_neg k1,if_pos rfl]
     rw[e];exact LT s M b A Bb W w hs hv hok hop h
    ·by_cases k3:K=3
     ·subst k3;have e:CP M ⟨3,A,Bb,W⟩=(⟨M.mem,M.pend,M.tlb.map (An A Bb),M.wc.map (B8 A Bb)⟩,0):=by
       unfold CP;rw[if_neg hno,if_neg k1,if_neg k2,if_pos rfl]
      rw[e];exact Jg s M b A Bb W w hs hv hop h
     ·by_cases k4:K=4
      ·subst k4;have e:CP M ⟨4,A,Bb,W⟩=(M,if Br M A then 4 else 0):=by
        unfold CP;rw[if_neg hno,if_neg k1,if_neg k2,if_neg k3]
       rw[e];exact JQ s M b A Bb W w hs hv hok hop _ rfl h
      ·exfalso;unfold Cf at hop;rw[if_neg k1,if_neg k2,if_neg k3,if_neg k4] at hop;exact absurd hop (by decide)
section
attribute [local go_sem ↓] wp_at_zero wp_at_succ
theorem Hp(gu b0 B:Nat)(u:UV)(M:A9)(o:Bi)(w:World)(hok:Cv M)(hv:AG M=true)(ho:CM o)(th:CB u)(h:UM w gu b0 B true u M):Calls prog 72 #[.pointer (some ⟨gu,0,none⟩),.agg #[.int .i64 o.kind,.int .i64 o.a,.int .i64 o.b,.int .u64 o.word]] w fun e w'=>e=.returned (.int .i64 (CP M o).2)/\∃u',Bk w w' gu b0 B u u' (CP M o).1:=by
 have hmm:=BP M.mem.length hok.n0;have hml:=Cd M.mem.length;have hpd:∀i,i<M.pend.length->0<=(A8 AA M.pend i).addr:=fun i hi=>(BI hv i hi).1
 obtain⟨K,A,Bb,W⟩:=o;have hw0:=ho.w.1;have hw1:W<18446744073709551616:=by have:=ho.w.2;dsimp only at this;omega
 dsimp only at hw0;have same:∀c,∀w',Below w.heap.size w w'->(CP M ⟨K,A,Bb,W⟩=(M,c))->∃u',Bk w w' gu b0 B u u' (CP M ⟨K,A,Bb,W⟩).1:=fun c w' hb he=>⟨u,by rw[he];exact Bk.refl h th hb⟩
 by_cases k1:K=1
 ·subst k1;have hwf:∀wX,Below w.heap.size w wX->Calls prog 183 #[.agg #[.int .i64 1,.int .i64 A,.int .i64 Bb,.int .u64 W],.pointer (some ⟨gu,0,none⟩)] wX fun e w'=>e=.returned (.bool (Cf M ⟨1,A,Bb,W⟩))/\Below wX.heap.size wX w':=fun wX hX=>by
   have:=J8 gu 1 A Bb W u.a1 u.a3 M.mem.length u.c1 M.pend.length u.c3 wX (Nat.lt_of_lt_of_le h.lt hX.size) (h.below hX).q0 (h.below hX).q2;have e:Cf M ⟨1,A,Bb,W⟩=decide (0<=A/\A<(M.mem.length:Int)/\Bb=0/\(M.pend.length:Int)<10000):=by
    unfold Cf;rw[if_pos rfl];exact decide_eq_decide.2 ⟨fun hh=>⟨hh.1,hh.2.1,hh.2.2.1,by omega⟩,fun hh=>⟨hh.1,hh.2.1,hh.2.2.1,by omega⟩⟩
   rw[e];exact this
  have hA:Cf M ⟨1,A,Bb,W⟩=true->∃N:Nat,A=N/\N<M.mem.length/\M.pend.length<10000:=fun hb=>by
   unfold Cf at hb;rw[if_pos rfl,decide_eq_true_eq] at hb;dsimp only at hb;exact⟨A.toNat,by omega,by omega,by omega⟩
  refine(Kh gu A Bb W (Ag M ⟨1,A,Bb,W⟩) (Cf M ⟨1,A,Bb,W⟩) w (fun w'=>∃u',Bk w w' gu b0 B u u' ⟨M.mem,M.pend++[⟨A,W⟩],M.tlb,M.wc⟩) hwf (fun hb wX hX=>?_) (fun hb hc wX hX=>?_)).mono ?_
  ·obtain⟨N,rfl,hN,_⟩:=hA hb;exact Ma gu N Bb W _ wX (Nat.lt_of_lt_of_le h.lt hX.size) (fun wY hY=>IP gu b0 B u M N ⟨1,N,Bb,W⟩ wY rfl hN hw0 hw1 hok hv (h.below (hX.trans (hY.mono hX.size))))
  ·obtain⟨N,rfl,hN,hp⟩:=hA hb;refine(IW gu b0 B u M 1 Bb W N wX hN (by omega) hp th (h.below hX)).mono ?_;rintro e w' ⟨rfl,u',hu'⟩;exact⟨rfl,u',(Bk.refl h th hX).trans hu'⟩
  ·rintro e w' ⟨rfl,hR⟩;cases hb:Cf M ⟨1,A,Bb,W⟩
   ·(have hop:CP M ⟨1,A,Bb,W⟩=(M,1):=by unfold CP;rw[hb];rfl);rw[hb] at hR;simp only[Bool.false_eq_true,false_and,if_false] at hR;exact⟨by rw[hop];rfl,same 1 w' hR hop⟩
   ·(have hop:CP M ⟨1,A,Bb,W⟩=(if Ag M ⟨1,A,Bb,W⟩=0 then ⟨M.mem,M.pend++[⟨A,W⟩],M.tlb,M.wc⟩ else M,Ag M ⟨1,A,Bb,W⟩):=by unfold CP;rw[hb];rfl);rw[hb] at hR;by_cases hc:Ag M ⟨1,A,Bb,W⟩=0
    ·rw[if_pos ⟨rfl,hc⟩] at hR;rw[hop,if_pos hc];exact⟨rfl,hR⟩
    ·rw[if_neg (fun hh=>hc hh.2)] at hR;rw[if_neg hc] at hop;exact⟨by rw[hop];rfl,same _ w' hR hop⟩
 ·by_cases k2:K=2
  ·subst k2;have hwf:∀wX,Below w.heap.size w wX->Calls prog 185 #[.agg #[.int .i64 2,.int .i64 A,.int .i64 Bb,.int .u64 W],.pointer (some ⟨gu,0,none⟩)] wX fun e w'=>e=.returned (.bool (Cf M ⟨2,A,Bb,W⟩))/\Below wX.heap.size wX w':=fun wX hX=>by
    (have e:Cf M ⟨2,A,Bb,W⟩=decide (A=0/\Bb=0/\W=0):=by unfold Cf;rw[if_neg (by dsimp only;decide),if_pos rfl]);rw[e];exact Gf gu 2 A Bb W wX
   refine(LJ gu A Bb W 0 (Cf M ⟨2,A,Bb,W⟩) w (fun w'=>∃u',Bk w w' gu b0 B u u' ⟨AE M,[],M.tlb.filter (fun e=>!e.doom),M.wc.filter (fun e=>!e.doom)⟩) hwf (fun hb wX hX=>M9 gu A Bb W wX) (fun hb hc wX hX=>?_)).mono ?_
   ·refine(Hq gu b0 B u M 2 A Bb W wX hok th (h.below hX)).mono ?_;rintro e w' ⟨rfl,u',hu'⟩;exact⟨rfl,u',(Bk.refl h th hX).trans hu'⟩
   ·rintro e w' ⟨rfl,hR⟩;cases hb:Cf M ⟨2,A,Bb,W⟩
    ·(have hop:CP M ⟨2,A,Bb,W⟩=(M,1):=by unfold CP;rw[hb];rfl);rw[hb] at hR;simp only[Bool.false_eq_true,false_and,if_false] at hR;exact⟨by rw[hop];rfl,same 1 w' hR hop⟩
    ·(have hop:CP M ⟨2,A,Bb,W⟩=(⟨AE M,[],M.tlb.filter (fun e=>!e.doom),M.wc.filter (fun e=>!e.doom)⟩,0):=by unfold CP;rw[hb];rfl);rw[hb,if_pos ⟨rfl,rfl⟩] at hR;rw[hop];exact⟨rfl,hR⟩
  ·by_cases k3:K=3
   ·subst k3;(have e:Cf M ⟨3,A,Bb,W⟩=decide (0<=A/\A<4096/\1<=Bb/\A+Bb<=4096/\W=0):=by unfold Cf;rw[if_neg (by dsimp only;decide),if_neg (by dsimp only;decide),if_pos rfl]);have hwf:∀wX,Below w.heap.size w wX->Calls prog 193 #[.agg #[.int .i64 3,.int .i64 A,.int .i64 Bb,.int .u64 W],.pointer (some ⟨gu,0,none⟩)] wX fun e w'=>e=.returned (.bool (Cf M ⟨3,A,Bb,W⟩))/\Below wX.heap.size wX w':=fun wX hX=>by
     rw[e];by_cases ha:0<=A/\A<4096
     ·exact Kl gu 3 A Bb W wX ha.1 ha.2
     ·exact MN gu 3 A Bb W wX ha
    refine(LM gu A Bb W 0 (Cf M ⟨3,A,Bb,W⟩) w (fun w'=>∃u',Bk w w' gu b0 B u u' ⟨M.mem,M.pend,M.tlb.map (An A Bb),M.wc.map (B8 A Bb)⟩) hwf (fun hb wX hX=>Lf gu A Bb W wX) (fun hb hc wX hX=>?_)).mono ?_
    ·rw[e,decide_eq_true_eq] at hb;refine(II gu b0 B u M 3 A Bb W wX hv hb.1 hb.2.1 hb.2.2.1 (by omega) hok.t hok.c (h.below hX)).mono ?_;rintro e w' ⟨rfl,hu',ht'⟩;refine⟨rfl,u,(Bk.refl h th hX).trans ⟨hu',⟨ht'.os,ht'.tape,ht'.output,ht'.size,fun k hk hn=>ht'.block k hk (fun hx=>hn (hx.elim (fun e=>.inr (.inr (.inr (.inr (.inl e))))) (fun e=>.inr (.inr (.inr (.inr (.inr e)))))))⟩,fun k hk=>.inl hk,th⟩⟩
    ·rintro e' w' ⟨rfl,hR⟩;cases hb:Cf M ⟨3,A,Bb,W⟩
     ·(have hop:CP M ⟨3,A,Bb,W⟩=(M,1):=by unfold CP;rw[hb];rfl);rw[hb] at hR;simp only[Bool.false_eq_true,false_and,if_false] at hR;exact⟨by rw[hop];rfl,same 1 w' hR hop⟩
     ·(have hop:CP M ⟨3,A,Bb,W⟩=(⟨M.mem,M.pend,M.tlb.map (An A Bb),M.wc.map (B8 A Bb)⟩,0):=by unfold CP;rw[hb];rfl);rw[hb,if_pos ⟨rfl,rfl⟩] at hR;rw[hop];exact⟨rfl,hR⟩
   ·by_cases k4:K=4
    ·subst k4;(have hnf:BS M.mem.length=(M.mem.length:Int)/16:=by omega);(have e:Cf M ⟨4,A,Bb,W⟩=decide (0<=A/\A<(M.mem.length:Int)/16/\Bb=0/\W=0):=by unfold Cf;rw[if_neg (by dsimp only;decide),if_neg (by dsimp only;decide),if_neg (by dsimp only;decide),if_pos rfl];dsimp only;rw[hnf]);have hwf:∀wX,Below w.heap.size w wX->Calls prog 196 #[.agg #[.int .i64 4,.int .i64 A,.int .i64 Bb,.int .u64 W],.pointer (some ⟨gu,0,none⟩)] wX fun e w'=>e=.returned (.bool (Cf M ⟨4,A,Bb,W⟩))/\Below wX.heap.size wX w':=fun wX hX=>by
      rw[e];exact JZ gu 4 A Bb W u.a1 M.mem.length u.c1 wX (by omega) (by omega) (Nat.lt_of_lt_of_le h.lt hX.size) (h.below hX).q0
     refine(LG gu A Bb W (if Br M A then 4 else 0) (Cf M ⟨4,A,Bb,W⟩) w (fun w'=>Below w.heap.size w w') hwf (fun hb wX hX=>?_) (fun hb hc wX hX=>?_)).mono ?_
     ·exact Lt gu A Bb W _ wX (Nat.lt_of_lt_of_le h.lt hX.size) (fun wY hY=>J7 gu b0 B u M A wY hok hpd (h.below (hX.trans (hY.mono hX.size))))
     ·refine(Gm gu 4 A Bb W wX).mono ?_;rintro e w' ⟨rfl,hb'⟩;exact⟨rfl,hX.trans (hb'.mono hX.size)⟩
     ·rintro e' w' ⟨rfl,hR⟩;(have hBl:Below w.heap.size w w':=by rwa [ite_self] at hR);cases hb:Cf M ⟨4,A,Bb,W⟩
      ·(have hop:CP M ⟨4,A,Bb,W⟩=(M,1):=by unfold CP;rw[hb];rfl);exact⟨by rw[hop];rfl,same 1 w' hBl hop⟩
      ·(have hop:CP M ⟨4,A,Bb,W⟩=(M,if Br M A then 4 else 0):=by unfold CP;rw[hb];rfl);exact⟨by rw[hop];rfl,same _ w' hBl hop⟩
    ·(have hb:Cf M ⟨K,A,Bb,W⟩=false:=by unfold Cf;rw[if_neg k1,if_neg k2,if_neg k3,if_neg k4]);(have hop:CP M ⟨K,A,Bb,W⟩=(M,1):=by unfold CP;rw[hb];rfl);refine(Km gu K A Bb W w k1 k2 k3 k4).mono ?_;rintro e w' ⟨rfl,hbl⟩;exact⟨by rw[hop],same 1 w' hbl hop⟩
set_option maxRecDepth 100000 in
theorem IK(s:SV)(M:A9)(b:Nat)(o:Bi)(w:World)(hk:H6 M)(hs:M.Small)(ho:CM o)(h:AB w b (s.mv M) M):Calls prog 16 #[.agg #[.slice s.a1 M.mem.length s.c1,.slice s.a2 M.pend.length s.c2,.slice s.a3 M.tlb.length s.c3,.slice s.a4 M.wc.length s.c4],.agg #[.int .i64 o.kind,.int .i64 o.a,.int .i64 o.b,.int .u64 o.word]] w fun e w'=>∃s':SV,e=.returned (.tuple #[.agg #[.slice s'.a1 (Bm M o).1.mem.length s'.c1,.slice s'.a2 (Bm M o).1.pend.length s'.c2,.slice s'.a3 (Bm M o).1.tlb.length s'.c3,.slice s'.a4 (Bm M o).1.wc.length s'.c4],.int .i64 (Bm M o).2])/\AB w' w.heap.size (s'.mv (Bm M o).1) (Bm M o).1/\(s'.mv (Bm M o).1).apart/\Below w.heap.size w w':=by
 obtain⟨wb,hwb⟩:∃wb,wb=((w.alloc (.cells #[.slice s.a1 M.mem.length s.c1,.slice s.a2 M.pend.length s.c2,.slice s.a3 M.tlb.length s.c3,.slice s.a4 M.wc.length s.c4] 36)).alloc (.cells #[.int .i64 o.kind,.int .i64 o.a,.int .i64 o.b,.int .u64 o.word] 51)).alloc (.cells #[.slice none 0 0,.slice none 0 0,.slice none 0 0,.slice none 0 0] 36):=⟨_,rfl⟩
 have hbb:Below w.heap.size w wb:=by rw[hwb];exact(((Below.refl _ _).alloc (Nat.le_refl _) _).alloc (by simp) _).alloc (by simp;omega) _
 have hzb:wb.heap.size=w.heap.size+3:=by rw[hwb];simp
 have HBOX:Hid (∀wX,Below wb.heap.size wb wX->(wX.cell? ⟨w.heap.size,0,none⟩=some (.slice s.a1 M.mem.length s.c1)/\wX.cell? ⟨w.heap.size,1,none⟩=some (.slice s.a2 M.pend.length s.c2)/\wX.cell? ⟨w.heap.size,2,none⟩=some (.slice s.a3 M.tlb.length s.c3)/\wX.cell? ⟨w.heap.size,3,none⟩=some (.slice s.a4 M.wc.length s.c4))/\(wX.cell? ⟨w.heap.size+1,0,none⟩=some (.int .i64 o.kind)/\wX.cell? ⟨w.heap.size+1,1,none⟩=some (.int .i64 o.a)/\wX.cell? ⟨w.heap.size+1,2,none⟩=some (.int .i64 o.b)/\wX.cell? ⟨w.heap.size+1,3,none⟩=some (.int .u64 o.word))/\(wX.cell? ⟨w.heap.size+2,0,none⟩=some (.slice none 0 0)/\wX.cell? ⟨w.heap.size+2,1,none⟩=some (.slice none 0 0)/\wX.cell? ⟨w.heap.size+2,2,none⟩=some (.slice none 0 0)/\wX.cell? ⟨w.heap.size+2,3,none⟩=some (.slice none 0 0))/\(wX.frozen? ⟨w.heap.size+2,0,none⟩=false/\wX.frozen? ⟨w.heap.size+2,1,none⟩=false/\wX.frozen? ⟨w.heap.size+2,2,none⟩=false/\wX.frozen? ⟨w.heap.size+2,3,none⟩=false)/\w.heap.size<wX.heap.size/\w.heap.size+1<wX.heap.size/\w.heap.size+2<wX.heap.size):=fun wX hX=>by
  have hsz:=hX.size;refine⟨⟨?_,?_,?_,?_⟩,⟨?_,?_,?_,?_⟩,⟨?_,?_,?_,?_⟩,⟨?_,?_,?_,?_⟩,by omega,by omega,by omega⟩;iterate 12 (exact(hX.cell (by simp;omega)).trans (by rw[hwb];simp[go_sem]))
  iterate 4 (exact(hX.frozen (by simp;omega)).trans (by rw[hwb];simp[go_sem]))
 have HWB:Hid (wb=_):=hwb;have HBB:Hid (Below _ w wb):=hbb;have HZ:Hid (wb.heap.size=w.heap.size+3):=hzb;have hvm:=Eo s M b wb hs (h.below hbb);rw[hwb] at hvm;have HM:Hid (∀wX,Below wb.heap.size wb wX->AB wX b (s.mv M) M):=fun wX hX=>h.below (hbb.trans (hX.mono (by omega)))
 clear hwb hbb hzb h;cases hv:AG M
 ·have HR:Hid (Bm M o=(zM,9)):=by unfold Bm;rw[hv];rfl
  rw[hv] at hvm;clear hv;go_enter func16,ntmps16
  go_wp2_with fail
  refine hvm.mono ?_;rintro e w1 ⟨rfl,hb1'⟩;have hb1:Below wb.heap.size wb w1:=by rw[HWB.out];exact hb1'
  obtain⟨_,_,⟨r0,r1,r2,r3⟩,⟨z0,z1,z2,z3⟩,N0,N1,N2⟩:=HBOX.out w1 hb1;have HB1:Hid (Below w.heap.size w w1):=HBB.out.trans (hb1.mono (by have:=HZ.out;omega));clear hb1' hb1 hvm;go_wp2_with fail
  refine bodyPost_ret (v:=.tuple #[.agg #[.slice none 0 0,.slice none 0 0,.slice none 0 0,.slice none 0 0],.int .i64 9]) (by simp[results,results16,go_sem,r0,r1,r2,r3]) rfl ?_;rw[HR.out];exact⟨zS,rfl,By _ _,Cr,(((HB1.out.setCell (by dsimp only;omega) _).setCell (by dsimp only;omega) _).setCell (by dsimp only;omega) _).setCell (by dsimp only;omega) _⟩
 ·rw[hv] at hvm;have hok:=Cv.of hk hv;have HR:Hid (Bm M o=CP M o):=by unfold Bm;rw[hv];rfl
  have HOP:Hid (∀wX,Below wb.heap.size wb wX->Calls prog 51 #[.agg #[.slice s.a1 M.mem.length s.c1,.slice s.a2 M.pend.length s.c2,.slice s.a3 M.tlb.length s.c3,.slice s.a4 M.wc.length s.c4]] wX fun r w'=>∃gu u,r=.returned (.pointer (some ⟨gu,0,none⟩))/\wX.heap.size<=gu/\UM w' gu wX.heap.size wX.heap.size true u M/\CB u/\Below wX.heap.size wX w'):=fun wX hX=>G6 s M b wX hok (fun i hi=>BI hv i hi) (HM.out wX hX)
  have HST:Hid (∀gu b0 u wX,CB u->UM wX gu b0 b0 true u M->Calls prog 72 #[.pointer (some ⟨gu,0,none⟩),.agg #[.int .i64 o.kind,.int .i64 o.a,.int .i64 o.b,.int .u64 o.word]] wX fun e w'=>e=.returned (.int .i64 (CP M o).2)/\∃u',Bk wX w' gu b0 b0 u u' (CP M o).1):=fun gu b0 u wX h1 h2=>Hp gu b0 b0 u M o wX hok hv ho h1 h2
  have hsm:=Gt hs hok o;obtain⟨R,hR⟩:∃R,R=(CP M o).1:=⟨_,rfl⟩
  obtain⟨cd,hcd⟩:∃cd,cd=(CP M o).2:=⟨_,rfl⟩
  rw[<- hR,<- hcd] at HST;rw[<- hR] at hsm;have HCL:Hid (∀(gu b0:Nat) (u:UV) (wX:World),UM wX gu b0 b0 true u R->_):=fun gu b0 u wX hu=>FQ gu b0 b0 true u R wX hsm hu
  have HRR:Hid (Bm M o=(R,cd)):=by rw[HR.out,hR,hcd];rfl
  clear hR hcd hv hok hsm HR;go_enter func16,ntmps16
  go_wp2_with fail
  refine hvm.mono ?_;rintro e w1 ⟨rfl,hb1'⟩;have hb1:Below wb.heap.size wb w1:=by rw[HWB.out];exact hb1'
  obtain⟨⟨q0,q1,q2,q3⟩,_,_,_,N0,N1,N2⟩:=HBOX.out w1 hb1;have HB1:Hid (Below wb.heap.size wb w1):=hb1;clear hb1' hb1 hvm;go_wp2_with fail
  refine(HOP.out _ HB1.out).mono ?_;rintro e w2 ⟨gu,u,rfl,hgu,hum,hth,hb2⟩;have b2:Below wb.heap.size wb w2:=HB1.out.trans (hb2.mono HB1.out.size);obtain⟨_,⟨p0,p1,p2,p3⟩,_,_,M0,M1,M2⟩:=HBOX.out w2 b2;have hst:=HST.out gu w1.heap.size u w2 hth hum;have HUM:Hid (UM w2 gu w1.heap.size w1.heap.size true u M):=hum;have HB2:Hid (Below w1.heap.size w1 w2):=hb2;have HGU:Hid (w1.heap.size<=gu):=hgu;clear hum hb2 hgu q0 q1 q2 q3 b2 hth;go_wp2_with fail
  refine hst.mono ?_;rintro e w3 ⟨rfl,u',hw3⟩;have hcl:=HCL.out gu w1.heap.size u' w3 hw3.um;have HW3:Hid (Bk w2 w3 gu w1.heap.size w1.heap.size u u' R):=hw3;clear hst hw3 p0 p1 p2 p3;go_wp2_with fail
  refine hcl.mono ?_;rintro e w4 ⟨a3,c3,a4,c4,rfl,ht4,hc4,hap4,hb4⟩;have hu:=HUM.out
  have b3:Below w1.heap.size w1 w3:=A5.below HB2.out HW3.out.tch HB2.out.size (fun k hk=>by
   rcases hk with hk|hk|hk|hk|hk|hk
   ·have:=HGU.out;omega
   ·exact(hu.w.ownA k hk).1
   ·exact((hu.l rfl).2.ownA k hk).1
   ·exact(hu.p.ownA k hk).1
   ·exact(hu.t.ownA k hk).1
   ·exact(hu.c.ownA k hk).1)
  have b4:Below w1.heap.size w1 w4:=b3.trans (hb4.mono b3.size);have b4b:Below wb.heap.size wb w4:=HB1.out.trans (b4.mono HB1.out.size);have hs1:=HB1.out.size;have hz:=HZ.out;obtain⟨_,_,⟨r0,r1,r2,r3⟩,⟨z0,z1,z2,z3⟩,K0,K1,K2⟩:=HBOX.out w4 b4b;have HFIN:Hid (∀wF,A5 (fun k=>k=w.heap.size+2) w4 wF->AB wF w.heap.size ((⟨u'.a1,u'.c1,u'.a3,u'.c3,a3,c3,a4,c4⟩:SV).mv R) R/\((⟨u'.a1,u'.c1,u'.a3,u'.c3,a3,c3,a4,c4⟩:SV).mv R).apart/\Below w.heap.size w wF):=fun wF hTF=>by
   refine⟨?_,?_,?_⟩
   ·have hrow:AB w4 w1.heap.size ((⟨u'.a1,u'.c1,u'.a3,u'.c3,a3,c3,a4,c4⟩:SV).mv R) R:=⟨HW3.out.um.w.below hb4,HW3.out.um.p.below hb4,ht4.rebase b3.size,hc4.rebase b3.size⟩;refine AB.rebase (base:=w1.heap.size) (hrow.touch hTF (fun k hk hh=>?_)) (by omega);have:=(hrow.own k hk).1;omega
   ·intro k;(have o1:=fun h=>(HW3.out.um.w.ownA k h).2);(have o3:=fun h=>(HW3.out.um.p.ownA k h).2);(have ot:=fun h=>(ht4.ownA k h).1);(have oc:=fun h=>(hc4.ownA k h).1);simp only[SV.mv,AQ];refine⟨fun h=>⟨HW3.out.th.a13 k h,fun h'=>?_,fun h'=>?_⟩,fun h=>⟨fun h'=>?_,fun h'=>?_⟩,fun h h'=>hap4 k h h'⟩
    ·have:=o1 h;have:=ot h';omega
    ·have:=o1 h;have:=oc h';omega
    ·have:=o3 h;have:=ot h';omega
    ·have:=o3 h;have:=oc h';omega
   ·exact A5.below (HBB.out.trans (b4b.mono (by omega))) hTF (by have:=b4b.size;omega) (fun k hk=>by omega)
  clear ht4 hc4 hap4 hb4 b3 b4 b4b hcl hu;go_wp2_with fail
  obtain⟨wF,hwF⟩:∃wF,wF=(((w4.setCell ⟨w.heap.size+1+1,0,none⟩ (.slice u'.a1 R.mem.length u'.c1)).setCell ⟨w.heap.size+1+1,1,none⟩ (.slice u'.a3 R.pend.length u'.c3)).setCell ⟨w.heap.size+1+1,2,none⟩ (.slice a3 R.tlb.length c3)).setCell ⟨w.heap.size+1+1,3,none⟩ (.slice a4 R.wc.length c4):=⟨_,rfl⟩
  rw[<- hwF];have hTF:A5 (fun k=>k=w.heap.size+2) w4 wF:=by
   rw[hwF];exact A5.put (A5.put (A5.put (A5.put (A5.none w4) _ _ (by rfl)) _ _ (by rfl)) _ _ (by rfl)) _ _ (by rfl)
  have f0:wF.cell? ⟨w.heap.size+1+1,0,none⟩=some (.slice u'.a1 R.mem.length u'.c1):=by rw[hwF];simp[go_sem,r0]
  have f1:wF.cell? ⟨w.heap.size+1+1,1,none⟩=some (.slice u'.a3 R.pend.length u'.c3):=by rw[hwF];simp[go_sem,r1]
  have f2:wF.cell? ⟨w.heap.size+1+1,2,none⟩=some (.slice a3 R.tlb.length c3):=by rw[hwF];simp[go_sem,r2]
  have f3:wF.cell? ⟨w.heap.size+1+1,3,none⟩=some (.slice a4 R.wc.length c4):=by rw[hwF];simp[go_sem,r3]
  refine bodyPost_ret (v:=.tuple #[.agg #[.slice u'.a1 R.mem.length u'.c1,.slice u'.a3 R.pend.length u'.c3,.slice a3 R.tlb.length c3,.slice a4 R.wc.length c4],.int .i64 cd]) (by simp[results,results16,go_sem,f0,f1,f2,f3]) rfl ?_;rw[HRR.out];exact⟨⟨u'.a1,u'.c1,u'.a3,u'.c3,a3,c3,a4,c4⟩,rfl,HFIN.out wF hTF⟩
end
theorem NS{x:Int}(h:(Lit.int .u64 x).wf=true):0<=x/\x<2 ^ 64:=by
 have:=bounds_u64 h;omega
theorem J6:prog.cellsOf 48=4:=by kernel_rfl
set_option maxRecDepth 100000 in
theorem Nd{H:Type}{enc:TypeId×Value->H}{W:World}{sp:Nat->Bool}(n:Nat)(cs:List Value)(y:DataW H×List MemPlace)(h:DataW.trod enc prog W 0 sp true n 48 cs=some y):∃x:Bi,cs=[.int .i64 x.kind,.int .i64 x.a,.int .i64 x.b,.int .u64 x.word]/\CM x:=by
 obtain⟨xs,m,_,_,hl,hlen,hf⟩:=DataW.trod_struct underlying48 h;rw[J6] at hl;obtain⟨v0,v1,v2,v3,rfl⟩:=KQ hl;have h0:DataW.trod enc prog W 0 sp true m 3 [v0]=xs[0]?:=hf 0 _ rfl;have k0:∃z,xs[0]?=some z:=⟨_,List.getElem?_eq_getElem (by rw[hlen];decide)⟩
 obtain⟨z0,e0⟩:=k0;rw[e0] at h0;obtain⟨q0,r0,_,w0⟩:=DataW.trod_int underlying3 h0;simp only[List.cons.injEq,and_true] at r0;have h1:DataW.trod enc prog W 0 sp true m 3 [v1]=xs[1]?:=hf 1 _ rfl;have k1:∃z,xs[1]?=some z:=⟨_,List.getElem?_eq_getElem (by rw[hlen];decide)⟩
 obtain⟨z1,e1⟩:=k1;rw[e1] at h1;obtain⟨q1,r1,_,w1⟩:=DataW.trod_int underlying3 h1;simp only[List.cons.injEq,and_true] at r1;have h2:DataW.trod enc prog W 0 sp true m 3 [v2]=xs[2]?:=hf 2 _ rfl;have k2:∃z,xs[2]?=some z:=⟨_,List.getElem?_eq_getElem (by rw[hlen];decide)⟩
 obtain⟨z2,e2⟩:=k2;rw[e2] at h2;obtain⟨q2,r2,_,w2⟩:=DataW.trod_int underlying3 h2;simp only[List.cons.injEq,and_true] at r2;have h3:DataW.trod enc prog W 0 sp true m 46 [v3]=xs[3]?:=hf 3 _ rfl;have k3:∃z,xs[3]?=some z:=⟨_,List.getElem?_eq_getElem (by rw[hlen];decide)⟩
 obtain⟨z3,e3⟩:=k3;rw[e3] at h3;obtain⟨q3,r3,_,w3⟩:=DataW.trod_int underlying46 h3;simp only[List.cons.injEq,and_true] at r3;exact⟨⟨q0,q1,q2,q3⟩,by rw[r0,r1,r2,r3],⟨bounds_i64 w0,bounds_i64 w1,bounds_i64 w2,NS w3⟩⟩
theorem MX:ownKnob prog.godebug=none:=by kernel_rfl
set_option maxRecDepth 100000 in
theorem Il(hany:∀(s:SV) (M:A9) (o:Bi) (w:World),H6 M->CM o->Ew w (s.mv M) M->Calls prog 4 #[.agg #[.slice s.a1 M.mem.length s.c1,.slice s.a2 M.pend.length s.c2,.slice s.a3 M.tlb.length s.c3,.slice s.a4 M.wc.length s.c4],.agg #[.int .i64 o.kind,.int .i64 o.a,.int .i64 o.b,.int .u64 o.word]] w fun e w'=>e=.returned (.bool true)/\Below w.heap.size w w')(os:Os)(started:os.Started)(H:Type)(enc:TypeId×Value->H):ReturnsInHanded {} Tryz.checked os 4 .any (Rows.fnExactStepSpec.pre6 enc prog Tryz.f4 Rows.fnExactStepRow.domain false) (Rows.fnExactStepSpec.post enc prog Tryz.f4 false true false false):=by
 refine returnsInHanded_of_change (C:=Tryz.checked) MX started (by kernel_rfl) func4
  (ChangeSpec.witness6 (enc:=enc) (C:=Tryz.checked) false ⟨#[],#[.agg #[.slice none 0 0,.slice none 0 0,.slice none 0 0,.slice none 0 0],.agg #[.int .i64 0,.int .i64 0,.int .i64 0,.int .u64 0]],[]⟩ 8 (by kernel_rfl) (by kernel_rfl) (by kernel_rfl) (by kernel_rfl)) ?_
 intro W base args ds gs before hval0 hW hcnd _;have hval:∀(j:Nat) t v,Tryz.f4.params[j]?=some t->args[j]?=some v->Value.okWide prog W .any base t v:=hval0
 have hW':=hW;obtain⟨p,q,hA0,hV,rfl,hfz,hnd⟩:=hW;have hA:DataW.TrodAll enc prog W 0 (fun _=>true) true Tryz.f4.params.toList args.toList ds p:=hA0;rw[Tryz.params4] at hA hval;obtain⟨v0,vs0,d0,ds0,p0,q0,hargs,rfl,rfl,h0,r0⟩:=trodAll_cons hA;obtain⟨v1,vs1,d1,ds1,p1,q1,rfl,rfl,rfl,h1,r1⟩:=trodAll_cons r0;obtain⟨rfl,rfl,rfl⟩:=trodAll_nil r1;obtain rfl:args=#[v0,v1]:=by cases args;simp_all
 obtain⟨rfl,rfl⟩:=trodVars_none hV;have k0:=h0;have lt0:∀x∈p0,x.block<W.heap.size:=by obtain⟨m,hm⟩:=k0;exact DataW.trod_lt m _ _ _ hm
 have k1:=h1;have lt1:∀x∈p1,x.block<W.heap.size:=by obtain⟨m,hm⟩:=k1;exact DataW.trod_lt m _ _ _ hm
 obtain⟨o,rfl,hoo⟩:∃o:Bi,v1=.agg #[.int .i64 o.kind,.int .i64 o.a,.int .i64 o.b,.int .u64 o.word]/\CM o:=by
  obtain⟨cs,rfl,hsz⟩:=okWide_struct underlying48 (hval 1 48 v1 rfl rfl);obtain⟨l⟩:=cs;obtain⟨fuel,hf⟩:=h1;obtain⟨o,rfl,ho⟩:=Nd fuel l _ hf;exact⟨o,rfl,ho⟩
 obtain⟨s,M,rfl,hok,hsrc⟩:=FZ (hval 0 29 v0 rfl rfl) h0;clear hA0 hval0;refine(hany s M o W hok hoo hsrc).mono fun e W' ⟨he,bel⟩=>?_
 subst he;exact⟨_,rfl,_,_,_,[],_,[],hW',trodAll_mk1 (shut_bool underlying4 _),(trodAll_cons_mk (Below.trod CF (by kernel_rfl) (of_decide_eq_true (by kernel_rfl)) k0 bel lt0) (trodAll_cons_mk (Below.trod CF (by kernel_rfl) (of_decide_eq_true (by kernel_rfl)) k1 bel lt1) trodAll_mk0)),rfl,bel.frame _,fun h=>by cases h⟩
theorem Ip{M:A9}(hk:H6 M)(hs:M.Small)(o:Bi):(Bm M o).1.Small:=by
 unfold Bm;cases hv:AG M
 ·exact Ga
 ·exact Gt hs (Cv.of hk hv) o
theorem MU(s:SV)(M:A9)(o:Bi)(w:World)(hk:H6 M)(ho:CM o)(hsrc:Ew w (s.mv M) M):Calls prog 4 #[.agg #[.slice s.a1 M.mem.length s.c1,.slice s.a2 M.pend.length s.c2,.slice s.a3 M.tlb.length s.c3,.slice s.a4 M.wc.length s.c4],.agg #[.int .i64 o.kind,.int .i64 o.a,.int .i64 o.b,.int .u64 o.word]] w fun e w'=>e=.returned (.bool true)/\Below w.heap.size w w':=by
 by_cases hb:M.mem.length+M.pend.length+M.tlb.length+M.wc.length<=1048576
 ·have hs:M.Small:=⟨by omega,by omega,by omega,by omega⟩;exact FO s M (Bm M o).1 (Bm M o).2 o w hs (Ip hk hs o) hb hsrc
   (fun s b w h=>FA s M b o w hk hs ho h) (fun s b w h=>IK s M b o w hk hs ho h)
 ·exact Fv s M o w hk.w hk.p hk.t hk.c hb
theorem step_proved:Rows.FnExactStepSaid :=
 OpenClaim.holds_of_wide 4 Tryz.f4 rfl rfl rfl rfl rfl rfl rfl ⟨rfl,rfl,rfl,rfl,rfl⟩ rfl rfl rfl rfl rfl (by kernel_rfl) func4 (by kernel_rfl)
  (of_decide_eq_true (by kernel_rfl)) (by unfold Func.isWrapper;first|(rw[if_pos (by decide +kernel)];kernel_rfl)|(rw[if_neg (by decide +kernel)];exact⟨rfl,rfl⟩))
  (fun os started H enc _=>Il MU os started H enc)
#print axioms step_proved
structure NF (e:AW):Prop where
 k:-9223372036854775808<=e.kind/\e.kind<=9223372036854775807
 p:-9223372036854775808<=e.page/\e.page<=9223372036854775807
 n:-9223372036854775808<=e.need/\e.need<=9223372036854775807
 c:-9223372036854775808<=e.choice/\e.choice<=9223372036854775807
theorem Fh:prog.cellsOf 123=4:=by kernel_rfl
set_option maxRecDepth 100000 in
theorem N7{H:Type}{enc:TypeId×Value->H}{W:World}{sp:Nat->Bool}(n:Nat)(cs:List Value)(y:DataW H×List MemPlace)(h:DataW.trod enc prog W 0 sp true n 123 cs=some y):∃x:AW,cs=[.int .i64 x.kind,.int .i64 x.page,.int .i64 x.need,.int .i64 x.choice]/\NF x:=by
 obtain⟨xs,m,_,_,hl,hlen,hf⟩:=DataW.trod_struct underlying123 h;rw[Fh] at hl;obtain⟨v0,v1,v2,v3,rfl⟩:=KQ hl;have h0:DataW.trod enc prog W 0 sp true m 3 [v0]=xs[0]?:=hf 0 _ rfl;have k0:∃z,xs[0]?=some z:=⟨_,List.getElem?_eq_getElem (by rw[hlen];decide)⟩
 obtain⟨z0,e0⟩:=k0;rw[e0] at h0;obtain⟨q0,r0,_,w0⟩:=DataW.trod_int underlying3 h0;simp only[List.cons.injEq,and_true] at r0;have h1:DataW.trod enc prog W 0 sp true m 3 [v1]=xs[1]?:=hf 1 _ rfl;have k1:∃z,xs[1]?=some z:=⟨_,List.getElem?_eq_getElem (by rw[hlen];decide)⟩
 obtain⟨z1,e1⟩:=k1;rw[e1] at h1;obtain⟨q1,r1,_,w1⟩:=DataW.trod_int underlying3 h1;simp only[List.cons.injEq,and_true] at r1;have h2:DataW.trod enc prog W 0 sp true m 3 [v2]=xs[2]?:=hf 2 _ rfl;have k2:∃z,xs[2]?=some z:=⟨_,List.getElem?_eq_getElem (by rw[hlen];decide)⟩
 obtain⟨z2,e2⟩:=k2;rw[e2] at h2;obtain⟨q2,r2,_,w2⟩:=DataW.trod_int underlying3 h2;simp only[List.cons.injEq,and_true] at r2;have h3:DataW.trod enc prog W 0 sp true m 3 [v3]=xs[3]?:=hf 3 _ rfl;have k3:∃z,xs[3]?=some z:=⟨_,List.getElem?_eq_getElem (by rw[hlen];decide)⟩
 obtain⟨z3,e3⟩:=k3;rw[e3] at h3;obtain⟨q3,r3,_,w3⟩:=DataW.trod_int underlying3 h3;simp only[List.cons.injEq,and_true] at r3;exact⟨⟨q0,q1,q2,q3⟩,by rw[r0,r1,r2,r3],⟨bounds_i64 w0,bounds_i64 w1,bounds_i64 w2,bounds_i64 w3⟩⟩
end Go.Proofs.YtnmhkgmmpkjjeabGreat
