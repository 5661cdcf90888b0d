import Derived.Test.YtnmhkgmmpkjjeabGreatE03
namespace Go.Proofs.YtnmhkgmmpkjjeabGreat
open ChangeShapes WideShapes ChangeAt RowKit Proofs.Tryz
set_option linter.all false
set_option maxRecDepth 100000
attribute [local go_sem ↓] wp_at_zero wp_at_succ
structure Am where
 page:Int
 size:Int
 out:Int
 perm:Int
 doom:Bool
def A7:DL Am:=⟨81,5,fun x=>[.int .i64 x.page,.int .i64 x.size,.int .i64 x.out,.int .i64 x.perm,.bool x.doom],⟨0,0,0,0,false⟩,by omega,fun _=>rfl⟩
theorem DP:(prog.info? 81).map (fun i=>(i.zero,i.size,i.bytes))=some (some (.agg #[.int .i64 0,.int .i64 0,.int .i64 0,.int .i64 0,.bool false]),5,40):=by kernel_rfl
theorem LX(a:Option Addr)(n cap:Nat)(left:Int)(h1:n<=9223372036854775807)(h0:0<=left)(h2:left<=1048576)(w:World):Calls prog 32 #[.slice a n cap,.int .i64 left] w fun e w'=>e=.returned (.int .i64 (if (n:Int)<=left then left-n else -1))/\w'=w:=by
 by_cases h:(n:Int)<=left
 ·rw[if_pos h];go_enter func32,ntmps32
  go_wp2
  go_ret;exact⟨rfl,rfl⟩
 ·rw[if_neg h];go_enter func32,ntmps32
  go_wp2
  go_ret;exact⟨rfl,rfl⟩
theorem L7(A:Int)(B:Int)(C:Int)(D:Int)(G:Bool)(w:World):Calls prog 95 #[.agg #[.int .i64 A,.int .i64 B,.int .i64 C,.int .i64 D,.bool G]] w fun e w'=>e=.returned (.agg #[.int .i64 A,.int .i64 B,.int .i64 C,.int .i64 D,.bool G])/\Below w.heap.size w w':=by
 go_enter func95,ntmps95
 go_wp2
 refine bodyPost_ret (v:=.agg #[.int .i64 A,.int .i64 B,.int .i64 C,.int .i64 D,.bool G]) (by simp[results,results95,go_sem]) rfl ⟨rfl,?_⟩;repeat (first|exact Below.refl _ _|(refine Below.alloc ?_ (by simp<;>omega) _)|(refine Below.setCell ?_ (by simp<;>omega) _))
theorem KJ(A:Int)(B:Int)(C:Int)(D:Int)(G:Bool)(w:World):Calls prog 109 #[.agg #[.int .i64 A,.int .i64 B,.int .i64 C,.int .i64 D,.bool G],.agg #[.int .i64 A,.int .i64 B,.int .i64 C,.int .i64 D,.bool G]] w fun e w'=>e=.returned (.bool true)/\Below w.heap.size w w':=by
 go_enter func109,ntmps109
 go_wp2
 go_ret;exact⟨rfl,((Below.refl _ _).alloc (Nat.le_refl _) _).alloc (by simp) _⟩
theorem J4(v u:Value)(bv bu:Nat)(xs:List Am)(w:World)(hn:xs.length<=1048576)(hv:A6 A7 w bv v xs)(hu:A6 A7 w bu u xs):Calls prog 56 #[v,u] w fun e w'=>e=.returned (.bool true)/\Below w.heap.size w w':=by
 obtain⟨a,c,rfl,ha⟩:=hv.form;obtain⟨b,d,rfl,hb⟩:=hu.form;clear hv hu;go_enter func56,ntmps56
 go_wp2
 go_loopw [5] (fun i wr=>∃k:Nat,k<=xs.length/\i=.int .i64 k/\Below w.heap.size w wr) (fun i _=>xs.length-(intOf i).toNat)
 case atStart=>exact⟨0,Nat.zero_le _,rfl,Below.refl _ _⟩
 case round =>
  obtain⟨k,hk,rfl,hbl⟩:=hrel;by_cases hlt:k<xs.length
  ·obtain⟨g,N,f,rfl,_,hr,hN,hf⟩:=ha (by omega);obtain⟨h,M,f',rfl,_,hr',hM,hf'⟩:=hb (by omega);have hN':xs.length*5<=N:=hN;have hM':xs.length*5<=M:=hM;have hr1:wr.rowIs g 81 N f:=hr.of_block (hbl.block g hr.lt);have hr2:wr.rowIs h 81 M f':=hr'.of_block (hbl.block h hr'.lt);have q0:=hr1.cell (i:=k*5) (by omega);have q1:=hr1.cell (i:=k*5+1) (by omega);have q2:=hr1.cell (i:=k*5+2) (by omega);have q3:=hr1.cell (i:=k*5+3) (by omega);have q4:=hr1.cell (i:=k*5+4) (by omega);have r0:=hr2.cell (i:=k*5) (by omega);have r1:=hr2.cell (i:=k*5+1) (by omega);have r2:=hr2.cell (i:=k*5+2) (by omega);have r3:=hr2.cell (i:=k*5+3) (by omega);have r4:=hr2.cell (i:=k*5+4) (by omega);rw[show f (k*5)=_ from hf k hlt 0 (by decide)] at q0;rw[show f (k*5+1)=_ from hf k hlt 1 (by decide)] at q1;rw[show f (k*5+2)=_ from hf k hlt 2 (by decide)] at q2;rw[show f (k*5+3)=_ from hf k hlt 3 (by decide)] at q3;rw[show f (k*5+4)=_ from hf k hlt 4 (by decide)] at q4;rw[show f' (k*5)=_ from hf' k hlt 0 (by decide)] at r0;rw[show f' (k*5+1)=_ from hf' k hlt 1 (by decide)] at r1;rw[show f' (k*5+2)=_ from hf' k hlt 2 (by decide)] at r2;rw[show f' (k*5+3)=_ from hf' k hlt 3 (by decide)] at r3;rw[show f' (k*5+4)=_ from hf' k hlt 4 (by decide)] at r4;have n1:=hr1.lt;have n2:=hr2.lt;have HB:Hid (Below w.heap.size w wr):=hbl;clear hf hf' ha hb hr hr' hr1 hr2 hbl hN hM;have c0:wr.cell? ⟨g,k*5,none⟩=some (.int .i64 (A8 A7 xs k).page):=q0;have d0:wr.cell? ⟨h,k*5,none⟩=some (.int .i64 (A8 A7 xs k).page):=r0;have c1:wr.cell? ⟨g,k*5+1,none⟩=some (.int .i64 (A8 A7 xs k).size):=q1;have d1:wr.cell? ⟨h,k*5+1,none⟩=some (.int .i64 (A8 A7 xs k).size):=r1;have c2:wr.cell? ⟨g,k*5+2,none⟩=some (.int .i64 (A8 A7 xs k).out):=q2;have d2:wr.cell? ⟨h,k*5+2,none⟩=some (.int .i64 (A8 A7 xs k).out):=r2;have c3:wr.cell? ⟨g,k*5+3,none⟩=some (.int .i64 (A8 A7 xs k).perm):=q3;have d3:wr.cell? ⟨h,k*5+3,none⟩=some (.int .i64 (A8 A7 xs k).perm):=r3;have c4:wr.cell? ⟨g,k*5+4,none⟩=some (.bool (A8 A7 xs k).doom):=q4;have d4:wr.cell? ⟨h,k*5+4,none⟩=some (.bool (A8 A7 xs k).doom):=r4;clear q0 r0 q1 r1 q2 r2 q3 r3 q4 r4;generalize (A8 A7 xs k).page=A at *;generalize (A8 A7 xs k).size=B at *;generalize (A8 A7 xs k).out=C at *;generalize (A8 A7 xs k).perm=D at *;generalize (A8 A7 xs k).doom=G at *;(have L1:(0:Int)<=(k:Int):=by omega);(have L2:(k:Int)<(xs.length:Int):=by omega);have he:=KJ A B C D G;have HK:Hid (∀w',Below wr.heap.size wr w'->w'.cell? ⟨g,k*5,none⟩=some (.int .i64 A)/\w'.cell? ⟨g,k*5+1,none⟩=some (.int .i64 B)/\w'.cell? ⟨g,k*5+2,none⟩=some (.int .i64 C)/\w'.cell? ⟨g,k*5+3,none⟩=some (.int .i64 D)/\w'.cell? ⟨g,k*5+4,none⟩=some (.bool G)/\w'.cell? ⟨h,k*5,none⟩=some (.int .i64 A)/\w'.cell? ⟨h,k*5+1,none⟩=some (.int .i64 B)/\w'.cell? ⟨h,k*5+2,none⟩=some (.int .i64 C)/\w'.cell? ⟨h,k*5+3,none⟩=some (.int .i64 D)/\w'.cell? ⟨h,k*5+4,none⟩=some (.bool G)) :=
    fun w' hX=>⟨(hX.cell n1).trans c0,(hX.cell n1).trans c1,(hX.cell n1).trans c2,(hX.cell n1).trans c3,(hX.cell n1).trans c4,(hX.cell n2).trans d0,(hX.cell n2).trans d1,(hX.cell n2).trans d2,(hX.cell n2).trans d3,(hX.cell n2).trans d4⟩
   (go_wp2);go_region_held3 (fun w'=>w'.cell? ⟨g,k*5,none⟩=some (.int .i64 A)/\w'.cell? ⟨g,k*5+1,none⟩=some (.int .i64 B)/\w'.cell? ⟨g,k*5+2,none⟩=some (.int .i64 C)/\w'.cell? ⟨g,k*5+3,none⟩=some (.int .i64 D)/\w'.cell? ⟨g,k*5+4,none⟩=some (.bool G)/\w'.cell? ⟨h,k*5,none⟩=some (.int .i64 A)/\w'.cell? ⟨h,k*5+1,none⟩=some (.int .i64 B)/\w'.cell? ⟨h,k*5+2,none⟩=some (.int .i64 C)/\w'.cell? ⟨h,k*5+3,none⟩=some (.int .i64 D)/\w'.cell? ⟨h,k*5+4,none⟩=some (.bool G))
    ((refine HK.out _ ?_;repeat (first|exact Below.refl _ _|with_reducible refine Below.drew ?_|refine Below.trans ?_ (hb1.mono (by first|omega|(simp<;>omega))))))
    (first|(go_at_call 109;refine(he _).mono ?_;rintro e w1 ⟨rfl,hb1⟩))
   (go_wp2);go_roundw;(case rel=>exact⟨k+1,by omega,by go_num,HB.out.trans ((Below.refl _ _).drew.trans (hb1.mono HB.out.size))⟩);case measure=>simp[intOf];omega
  ·(go_wp2);go_ret;exact⟨rfl,hbl⟩
theorem KG(v:Value)(xs:List Am)(w:World)(hv:EX A7 w v xs)(hn:xs.length<=1048576):Calls prog 45 #[v] w fun e w'=>e=.returned (.slice (some ⟨w.heap.size,0,none⟩) xs.length xs.length)/\A6 A7 w' w.heap.size (.slice (some ⟨w.heap.size,0,none⟩) xs.length xs.length) xs/\Below w.heap.size w w':=by
 obtain⟨a,cap,rfl,ha⟩:=hv;obtain⟨i0,hi,hz0,hz1,hz2⟩:=info_parts DP;go_enter func45,ntmps45
 go_wp2_with (refine wpList_make_full _ rfl (.tmp 6) (.tmp 6) 33 rfl w.heap.size 81 i0 _ 5 underlying33 hi hz0 hz1 .i64 .i64 _ _ xs.length rfl rfl rfl rfl (by rw[hz2];omega) (by unfold maxLen;omega) (Nat.le_refl _) ?_;intro wm hom hgm)
 have hbm:Below w.heap.size w wm:=⟨hgm.os,hgm.tape,hgm.output,hgm.size,fun k hk=>hgm.block k hk (by simp)⟩;obtain⟨f0,hr0⟩:=Cs hom;clear hom hgm;go_loopw [4] (fun i wr=>∃k:Nat,k<=xs.length/\i=.int .i64 k/\(∃f,wr.rowIs w.heap.size 81 (xs.length*5) f/\∀i,i<k->∀j,j<5->f (i*5+j)=AL A7 xs i j)/\Below w.heap.size w wr) (fun i _=>xs.length-(intOf i).toNat)
 case atStart=>exact⟨0,Nat.zero_le _,rfl,⟨f0,hr0,fun i hi=>absurd hi (by omega)⟩,hbm⟩
 case round =>
  obtain⟨k,hk,rfl,⟨f,hrow,hf⟩,hb⟩:=hrel;by_cases hlt:k<xs.length
  ·obtain⟨b,o,rfl,hbl,hc⟩:=ha (by omega);have c0:wr.cell? ⟨b,o+k*5,none⟩=some (.int .i64 (A8 A7 xs k).page):=(hb.cell hbl).trans (hc k hlt 0 (by decide));have c1:wr.cell? ⟨b,o+k*5+1,none⟩=some (.int .i64 (A8 A7 xs k).size):=(hb.cell hbl).trans (hc k hlt 1 (by decide));have c2:wr.cell? ⟨b,o+k*5+2,none⟩=some (.int .i64 (A8 A7 xs k).out):=(hb.cell hbl).trans (hc k hlt 2 (by decide));have c3:wr.cell? ⟨b,o+k*5+3,none⟩=some (.int .i64 (A8 A7 xs k).perm):=(hb.cell hbl).trans (hc k hlt 3 (by decide));have c4:wr.cell? ⟨b,o+k*5+4,none⟩=some (.bool (A8 A7 xs k).doom):=(hb.cell hbl).trans (hc k hlt 4 (by decide));have E0:AL A7 xs k 0=.int .i64 (A8 A7 xs k).page:=rfl;have E1:AL A7 xs k 1=.int .i64 (A8 A7 xs k).size:=rfl;have E2:AL A7 xs k 2=.int .i64 (A8 A7 xs k).out:=rfl;have E3:AL A7 xs k 3=.int .i64 (A8 A7 xs k).perm:=rfl;have E4:AL A7 xs k 4=.bool (A8 A7 xs k).doom:=rfl;generalize (A8 A7 xs k).page=A at *;generalize (A8 A7 xs k).size=B at *;generalize (A8 A7 xs k).out=C at *;generalize (A8 A7 xs k).perm=D at *;generalize (A8 A7 xs k).doom=G at *;(have L1:(0:Int)<=(k:Int):=by omega);(have L2:(k:Int)<(xs.length:Int):=by omega);have HF:Hid _:=hf;have HROW:Hid (wr.rowIs w.heap.size _ _ f):=hrow;have HB:Hid (Below _ _ _):=hb;have hrl:=hrow.lt;have HE0:Hid _:=E0;have HE1:Hid _:=E1;have HE2:Hid _:=E2;have HE3:Hid _:=E3;have HE4:Hid _:=E4;clear hc ha hf hrow hb E0 E1 E2 E3 E4 hbm hr0;(go_wp2_with fail);refine(L7 A B C D G wr).mono ?_;rintro e w1 ⟨rfl,hb1⟩;have hrow1:w1.rowIs w.heap.size 81 (xs.length*5) f:=HROW.out.of_block (hb1.block _ hrl);have f0:=hrow1.frozen (k*5);have o0:=hrow1.cell (i:=k*5) (by omega);have f1:=hrow1.frozen (k*5+1);have o1:=hrow1.cell (i:=k*5+1) (by omega);have f2:=hrow1.frozen (k*5+2);have o2:=hrow1.cell (i:=k*5+2) (by omega);have f3:=hrow1.frozen (k*5+3);have o3:=hrow1.cell (i:=k*5+3) (by omega);have f4:=hrow1.frozen (k*5+4);have o4:=hrow1.cell (i:=k*5+4) (by omega);generalize f (k*5)=u100 at o0;generalize f (k*5+1)=u101 at o1;generalize f (k*5+2)=u102 at o2;generalize f (k*5+3)=u103 at o3;generalize f (k*5+4)=u104 at o4;have HR1:Hid (w1.rowIs w.heap.size _ _ f):=hrow1;have HB1:Hid (Below _ _ _):=hb1;clear hrow1 hb1 c0 c1 c2 c3 c4;(go_wp2_with fail);go_roundw;case rel =>
    refine⟨k+1,by omega,by go_num,⟨_,((((HR1.out.set (k*5) _).set (k*5+1) _).set (k*5+2) _).set (k*5+3) _).set (k*5+4) _,?_⟩,?_⟩
    ·intro i hi j hj;by_cases e:i=k
     ·subst e;rcases(show j=0\/j=1\/j=2\/j=3\/j=4 by omega) with rfl|rfl|rfl|rfl|rfl
      ·rw[HE0.out];simp
      ·rw[HE1.out];simp
      ·rw[HE2.out];simp
      ·rw[HE3.out];simp
      ·rw[HE4.out];simp
     ·(have hik:i<k:=by omega);rw[<- HF.out i hik j hj];rw[if_neg (by omega)];rw[if_neg (by omega)];rw[if_neg (by omega)];rw[if_neg (by omega)];rw[if_neg (by omega)]
    ·exact((((((HB.out.trans (HB1.out.mono (by omega))).setCell (Nat.le_refl _) _).setCell (Nat.le_refl _) _).setCell (Nat.le_refl _) _).setCell (Nat.le_refl _) _).setCell (Nat.le_refl _) _)
   case measure=>simp[intOf];omega
  ·(have e:k=xs.length:=by omega);subst e;clear ha;(go_wp2_with fail);go_ret;exact⟨rfl,A6.of_row rfl (Nat.le_refl _) hrow rfl (Nat.le_refl _) (by unfold maxLen;omega) hf,hb⟩
def Ce (s:Int) (i j:Nat):Value :=
 match j with
 | 0=>.int .i64 (s+i*5)
 | 1=>.int .i64 (s+i*5+1)
 | 2=>.int .i64 (s+i*5+1+1)
 | 3=>.int .i64 (s+i*5+1+1+1)
 | 4=>.bool ((s+i*5+1+1+1+1)%3==0)
 | _=>.bool false
theorem Hu(v:Value)(bv:Nat)(xs:List Am)(s:Int)(w:World)(hs0:0<=s)(hs1:s<=100000000)(hn:xs.length<=1048576)(hv:A6 A7 w bv v xs):Calls prog 60 #[v,.int .i64 s] w fun e w'=>e=.returned (.int .i64 (s+xs.length*5))/\Bu A7 w' v xs.length (Ce s)/\w.grownBy w' v.ownBlock:=by
 obtain⟨a,c,rfl,ha⟩:=hv.form;by_cases h0:xs.length=0
 ·rw[h0];clear ha hv;go_enter func60,ntmps60
  go_wp2
  go_loopw [1,5] (fun m i wr=>i=.int .i64 0/\m=.int .i64 s/\wr=w) (fun _ i _=>0)
  case atStart=>exact⟨rfl,rfl,rfl⟩
  case round =>
   obtain⟨rfl,rfl,rfl⟩:=hrel;(go_wp2);go_ret;exact⟨by simp,⟨a,c,rfl,fun h=>absurd h (by omega)⟩,World.grownBy.refl _ _⟩
 ·obtain⟨g,N,f,rfl,_,hr,hN,hf⟩:=ha (by omega);have hN':xs.length*5<=N:=hN;clear ha hf hv hN;go_enter func60,ntmps60
  go_wp2
  go_loopw [1,5] (fun m i wr=>∃k:Nat,k<=xs.length/\i=.int .i64 k/\m=.int .i64 (s+k*5)/\(∃f,wr.rowIs g 81 N f/\∀i,i<k->∀j,j<5->f (i*5+j)=Ce s i j)/\w.grownBy wr (some g)) (fun _ i _=>xs.length-(intOf i).toNat)
  case atStart=>exact⟨0,Nat.zero_le _,rfl,by simp,⟨_,hr,fun i hi=>absurd hi (by omega)⟩,World.grownBy.refl _ _⟩
  case round =>
   obtain⟨k,hk,rfl,rfl,⟨f,hrow,hf⟩,hb⟩:=hrel;by_cases hlt:k<xs.length
   ·have HF:Hid _:=hf;have HROW:Hid (wr.rowIs g _ N f):=hrow;have HB:Hid (w.grownBy wr _):=hb;have f0:=hrow.frozen (k*5);have o0:=hrow.cell (i:=k*5) (by omega);have f1:=hrow.frozen (k*5+1);have o1:=hrow.cell (i:=k*5+1) (by omega);have f2:=hrow.frozen (k*5+2);have o2:=hrow.cell (i:=k*5+2) (by omega);have f3:=hrow.frozen (k*5+3);have o3:=hrow.cell (i:=k*5+3) (by omega);have f4:=hrow.frozen (k*5+4);have o4:=hrow.cell (i:=k*5+4) (by omega);generalize f (k*5)=u100 at o0;generalize f (k*5+1)=u101 at o1;generalize f (k*5+2)=u102 at o2;generalize f (k*5+3)=u103 at o3;generalize f (k*5+4)=u104 at o4;(have L1:(0:Int)<=(k:Int):=by omega);(have L2:(k:Int)<(xs.length:Int):=by omega);clear hf hrow hb hr;(go_wp2);go_roundw;case rel =>
     refine⟨k+1,by omega,by go_num,by go_num,⟨_,((((HROW.out.set (k*5) _).set (k*5+1) _).set (k*5+2) _).set (k*5+3) _).set (k*5+4) _,?_⟩,AN (AN (AN (AN (AN (HB.out) _ _) _ _) _ _) _ _) _ _⟩;intro i hi j hj;by_cases e:i=k
     ·subst e;rcases(show j=0\/j=1\/j=2\/j=3\/j=4 by omega) with rfl|rfl|rfl|rfl|rfl
      ·simp[Ce]
      ·simp[Ce]
      ·simp[Ce]
      ·simp[Ce]
      ·simp[Ce]
     ·(have hik:i<k:=by omega);rw[<- HF.out i hik j hj];rw[if_neg (by omega)];rw[if_neg (by omega)];rw[if_neg (by omega)];rw[if_neg (by omega)];rw[if_neg (by omega)]
    case measure=>simp[intOf];omega
   ·(have e:k=xs.length:=by omega);subst e;(go_wp2);go_ret;exact⟨rfl,⟨_,c,rfl,fun _=>⟨g,N,f,rfl,hrow,hN',hf⟩⟩,hb⟩
theorem IG(v:Value)(n:Nat)(s:Int)(w:World)(hs0:0<=s)(hs1:s<=100000000)(hn:n<=1048576)(hv:Bu A7 w v n (Ce s)):Calls prog 64 #[v,.int .i64 s] w fun e w'=>e=.returned (.int .i64 (s+n*5))/\Below w.heap.size w w':=by
 obtain⟨a,c,rfl,ha⟩:=hv;go_enter func64,ntmps64
 go_wp2
 go_loopw [1,5] (fun m i wr=>∃k:Nat,k<=n/\i=.int .i64 k/\m=.int .i64 (s+k*5)/\Below w.heap.size w wr) (fun _ i _=>n-(intOf i).toNat)
 case atStart=>exact⟨0,Nat.zero_le _,rfl,by simp,Below.refl _ _⟩
 case round =>
  obtain⟨k,hk,rfl,rfl,hb⟩:=hrel;by_cases hlt:k<n
  ·obtain⟨g,N,f,rfl,hr,hN,hf⟩:=ha (by omega);have hN':n*5<=N:=hN;have hr1:wr.rowIs g 81 N f:=hr.of_block (hb.block g hr.lt);have q0:=hr1.cell (i:=k*5) (by omega);have q1:=hr1.cell (i:=k*5+1) (by omega);have q2:=hr1.cell (i:=k*5+2) (by omega);have q3:=hr1.cell (i:=k*5+3) (by omega);have q4:=hr1.cell (i:=k*5+4) (by omega);rw[show f (k*5)=_ from hf k hlt 0 (by decide)] at q0;rw[show f (k*5+1)=_ from hf k hlt 1 (by decide)] at q1;rw[show f (k*5+2)=_ from hf k hlt 2 (by decide)] at q2;rw[show f (k*5+3)=_ from hf k hlt 3 (by decide)] at q3;rw[show f (k*5+4)=_ from hf k hlt 4 (by decide)] at q4;have c0:wr.cell? ⟨g,k*5,none⟩=some (.int .i64 (s+k*5)):=q0;have c1:wr.cell? ⟨g,k*5+1,none⟩=some (.int .i64 (s+k*5+1)):=q1;have c2:wr.cell? ⟨g,k*5+2,none⟩=some (.int .i64 (s+k*5+1+1)):=q2;have c3:wr.cell? ⟨g,k*5+3,none⟩=some (.int .i64 (s+k*5+1+1+1)):=q3;have c4:wr.cell? ⟨g,k*5+4,none⟩=some (.bool ((s+k*5+1+1+1+1)%3==0)):=q4;clear q0 q1 q2 q3 q4;(have L1:(0:Int)<=(k:Int):=by omega);(have L2:(k:Int)<(n:Int):=by omega);clear hf ha hr hr1 hN;(go_wp2);go_roundw;(case rel=>exact⟨k+1,by omega,by go_num,by go_num,hb⟩);case measure=>simp[intOf];omega
  ·(have e:k=n:=by omega);subst e;(go_wp2);go_ret;exact⟨rfl,hb⟩
end Go.Proofs.YtnmhkgmmpkjjeabGreat
