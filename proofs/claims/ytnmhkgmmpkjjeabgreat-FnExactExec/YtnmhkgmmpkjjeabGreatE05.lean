import Derived.Test.YtnmhkgmmpkjjeabGreatE03
namespace Go.Proofs.YtnmhkgmmpkjjeabGreat
open ChangeShapes WideShapes ChangeAt RowKit Proofs.Tryz
set_option linter.all false
set_option maxRecDepth 100000
attribute [local go_sem ↓] wp_at_zero wp_at_succ
structure CI where
 level:Int
 page:Int
 table:Int
 doom:Bool
def AJ:DL CI:=⟨113,4,fun x=>[.int .i64 x.level,.int .i64 x.page,.int .i64 x.table,.bool x.doom],⟨0,0,0,false⟩,by omega,fun _=>rfl⟩
theorem Ei:(prog.info? 113).map (fun i=>(i.zero,i.size,i.bytes))=some (some (.agg #[.int .i64 0,.int .i64 0,.int .i64 0,.bool false]),4,32):=by kernel_rfl
theorem Lb(a:Option Addr)(n cap:Nat)(left:Int)(h1:n<=9223372036854775807)(h0:0<=left)(h2:left<=1048576)(w:World):Calls prog 33 #[.slice a n cap,.int .i64 left] w fun e w'=>e=.returned (.int .i64 (if (n:Int)<=left then left-n else -1))/\w'=w:=by
 by_cases h:(n:Int)<=left
 ·rw[if_pos h];go_enter func33,ntmps33
  go_wp2
  go_ret;exact⟨rfl,rfl⟩
 ·rw[if_neg h];go_enter func33,ntmps33
  go_wp2
  go_ret;exact⟨rfl,rfl⟩
theorem ME(A:Int)(B:Int)(C:Int)(D:Bool)(w:World):Calls prog 96 #[.agg #[.int .i64 A,.int .i64 B,.int .i64 C,.bool D]] w fun e w'=>e=.returned (.agg #[.int .i64 A,.int .i64 B,.int .i64 C,.bool D])/\Below w.heap.size w w':=by
 go_enter func96,ntmps96
 go_wp2
 refine bodyPost_ret (v:=.agg #[.int .i64 A,.int .i64 B,.int .i64 C,.bool D]) (by simp[results,results96,go_sem]) rfl ⟨rfl,?_⟩;repeat (first|exact Below.refl _ _|(refine Below.alloc ?_ (by simp<;>omega) _)|(refine Below.setCell ?_ (by simp<;>omega) _))
theorem LU(A:Int)(B:Int)(C:Int)(D:Bool)(w:World):Calls prog 110 #[.agg #[.int .i64 A,.int .i64 B,.int .i64 C,.bool D],.agg #[.int .i64 A,.int .i64 B,.int .i64 C,.bool D]] w fun e w'=>e=.returned (.bool true)/\Below w.heap.size w w':=by
 go_enter func110,ntmps110
 go_wp2
 go_ret;exact⟨rfl,((Below.refl _ _).alloc (Nat.le_refl _) _).alloc (by simp) _⟩
theorem Jd(v u:Value)(bv bu:Nat)(xs:List CI)(w:World)(hn:xs.length<=1048576)(hv:A6 AJ w bv v xs)(hu:A6 AJ w bu u xs):Calls prog 57 #[v,u] w fun e w'=>e=.returned (.bool true)/\Below w.heap.size w w':=by
 obtain⟨a,c,rfl,ha⟩:=hv.form;obtain⟨b,d,rfl,hb⟩:=hu.form;clear hv hu;go_enter func57,ntmps57
 go_wp2
 go_loopw [5] (fun i wr=>∃k:Nat,k<=xs.length/\i=.int .i64 k/\Below w.heap.size w wr) (fun i _=>xs.length-(intOf i).toNat)
 case atStart=>exact⟨0,Nat.zero_le _,rfl,Below.refl _ _⟩
 case round =>
  obtain⟨k,hk,rfl,hbl⟩:=hrel;by_cases hlt:k<xs.length
  ·obtain⟨g,N,f,rfl,_,hr,hN,hf⟩:=ha (by omega);obtain⟨h,M,f',rfl,_,hr',hM,hf'⟩:=hb (by omega);have hN':xs.length*4<=N:=hN;have hM':xs.length*4<=M:=hM;have hr1:wr.rowIs g 113 N f:=hr.of_block (hbl.block g hr.lt);have hr2:wr.rowIs h 113 M f':=hr'.of_block (hbl.block h hr'.lt);have q0:=hr1.cell (i:=k*4) (by omega);have q1:=hr1.cell (i:=k*4+1) (by omega);have q2:=hr1.cell (i:=k*4+2) (by omega);have q3:=hr1.cell (i:=k*4+3) (by omega);have r0:=hr2.cell (i:=k*4) (by omega);have r1:=hr2.cell (i:=k*4+1) (by omega);have r2:=hr2.cell (i:=k*4+2) (by omega);have r3:=hr2.cell (i:=k*4+3) (by omega);rw[show f (k*4)=_ from hf k hlt 0 (by decide)] at q0;rw[show f (k*4+1)=_ from hf k hlt 1 (by decide)] at q1;rw[show f (k*4+2)=_ from hf k hlt 2 (by decide)] at q2;rw[show f (k*4+3)=_ from hf k hlt 3 (by decide)] at q3;rw[show f' (k*4)=_ from hf' k hlt 0 (by decide)] at r0;rw[show f' (k*4+1)=_ from hf' k hlt 1 (by decide)] at r1;rw[show f' (k*4+2)=_ from hf' k hlt 2 (by decide)] at r2;rw[show f' (k*4+3)=_ from hf' k hlt 3 (by decide)] at r3;have n1:=hr1.lt;have n2:=hr2.lt;have HB:Hid (Below w.heap.size w wr):=hbl;clear hf hf' ha hb hr hr' hr1 hr2 hbl hN hM;have c0:wr.cell? ⟨g,k*4,none⟩=some (.int .i64 (A8 AJ xs k).level):=q0;have d0:wr.cell? ⟨h,k*4,none⟩=some (.int .i64 (A8 AJ xs k).level):=r0;have c1:wr.cell? ⟨g,k*4+1,none⟩=some (.int .i64 (A8 AJ xs k).page):=q1;have d1:wr.cell? ⟨h,k*4+1,none⟩=some (.int .i64 (A8 AJ xs k).page):=r1;have c2:wr.cell? ⟨g,k*4+2,none⟩=some (.int .i64 (A8 AJ xs k).table):=q2;have d2:wr.cell? ⟨h,k*4+2,none⟩=some (.int .i64 (A8 AJ xs k).table):=r2;have c3:wr.cell? ⟨g,k*4+3,none⟩=some (.bool (A8 AJ xs k).doom):=q3;have d3:wr.cell? ⟨h,k*4+3,none⟩=some (.bool (A8 AJ xs k).doom):=r3;clear q0 r0 q1 r1 q2 r2 q3 r3;generalize (A8 AJ xs k).level=A at *;generalize (A8 AJ xs k).page=B at *;generalize (A8 AJ xs k).table=C at *;generalize (A8 AJ xs k).doom=D at *;(have L1:(0:Int)<=(k:Int):=by omega);(have L2:(k:Int)<(xs.length:Int):=by omega);have he:=LU A B C D;have HK:Hid (∀w',Below wr.heap.size wr w'->w'.cell? ⟨g,k*4,none⟩=some (.int .i64 A)/\w'.cell? ⟨g,k*4+1,none⟩=some (.int .i64 B)/\w'.cell? ⟨g,k*4+2,none⟩=some (.int .i64 C)/\w'.cell? ⟨g,k*4+3,none⟩=some (.bool D)/\w'.cell? ⟨h,k*4,none⟩=some (.int .i64 A)/\w'.cell? ⟨h,k*4+1,none⟩=some (.int .i64 B)/\w'.cell? ⟨h,k*4+2,none⟩=some (.int .i64 C)/\w'.cell? ⟨h,k*4+3,none⟩=some (.bool D)) :=
    fun w' hX=>⟨(hX.cell n1).trans c0,(hX.cell n1).trans c1,(hX.cell n1).trans c2,(hX.cell n1).trans c3,(hX.cell n2).trans d0,(hX.cell n2).trans d1,(hX.cell n2).trans d2,(hX.cell n2).trans d3⟩
   (go_wp2);go_region_held3 (fun w'=>w'.cell? ⟨g,k*4,none⟩=some (.int .i64 A)/\w'.cell? ⟨g,k*4+1,none⟩=some (.int .i64 B)/\w'.cell? ⟨g,k*4+2,none⟩=some (.int .i64 C)/\w'.cell? ⟨g,k*4+3,none⟩=some (.bool D)/\w'.cell? ⟨h,k*4,none⟩=some (.int .i64 A)/\w'.cell? ⟨h,k*4+1,none⟩=some (.int .i64 B)/\w'.cell? ⟨h,k*4+2,none⟩=some (.int .i64 C)/\w'.cell? ⟨h,k*4+3,none⟩=some (.bool D))
    ((refine HK.out _ ?_;repeat (first|exact Below.refl _ _|with_reducible refine Below.drew ?_|refine Below.trans ?_ (hb1.mono (by first|omega|(simp<;>omega))))))
    (first|(go_at_call 110;refine(he _).mono ?_;rintro e w1 ⟨rfl,hb1⟩))
   (go_wp2);go_roundw;(case rel=>exact⟨k+1,by omega,by go_num,HB.out.trans ((Below.refl _ _).drew.trans (hb1.mono HB.out.size))⟩);case measure=>simp[intOf];omega
  ·(go_wp2);go_ret;exact⟨rfl,hbl⟩
theorem Kx(v:Value)(xs:List CI)(w:World)(hv:EX AJ w v xs)(hn:xs.length<=1048576):Calls prog 46 #[v] w fun e w'=>e=.returned (.slice (some ⟨w.heap.size,0,none⟩) xs.length xs.length)/\A6 AJ w' w.heap.size (.slice (some ⟨w.heap.size,0,none⟩) xs.length xs.length) xs/\Below w.heap.size w w':=by
 obtain⟨a,cap,rfl,ha⟩:=hv;obtain⟨i0,hi,hz0,hz1,hz2⟩:=info_parts Ei;go_enter func46,ntmps46
 go_wp2_with (refine wpList_make_full _ rfl (.tmp 6) (.tmp 6) 34 rfl w.heap.size 113 i0 _ 4 underlying34 hi hz0 hz1 .i64 .i64 _ _ xs.length rfl rfl rfl rfl (by rw[hz2];omega) (by unfold maxLen;omega) (Nat.le_refl _) ?_;intro wm hom hgm)
 have hbm:Below w.heap.size w wm:=⟨hgm.os,hgm.tape,hgm.output,hgm.size,fun k hk=>hgm.block k hk (by simp)⟩;obtain⟨f0,hr0⟩:=Cs hom;clear hom hgm;go_loopw [4] (fun i wr=>∃k:Nat,k<=xs.length/\i=.int .i64 k/\(∃f,wr.rowIs w.heap.size 113 (xs.length*4) f/\∀i,i<k->∀j,j<4->f (i*4+j)=AL AJ xs i j)/\Below w.heap.size w wr) (fun i _=>xs.length-(intOf i).toNat)
 case atStart=>exact⟨0,Nat.zero_le _,rfl,⟨f0,hr0,fun i hi=>absurd hi (by omega)⟩,hbm⟩
 case round =>
  obtain⟨k,hk,rfl,⟨f,hrow,hf⟩,hb⟩:=hrel;by_cases hlt:k<xs.length
  ·obtain⟨b,o,rfl,hbl,hc⟩:=ha (by omega);have c0:wr.cell? ⟨b,o+k*4,none⟩=some (.int .i64 (A8 AJ xs k).level):=(hb.cell hbl).trans (hc k hlt 0 (by decide));have c1:wr.cell? ⟨b,o+k*4+1,none⟩=some (.int .i64 (A8 AJ xs k).page):=(hb.cell hbl).trans (hc k hlt 1 (by decide));have c2:wr.cell? ⟨b,o+k*4+2,none⟩=some (.int .i64 (A8 AJ xs k).table):=(hb.cell hbl).trans (hc k hlt 2 (by decide));have c3:wr.cell? ⟨b,o+k*4+3,none⟩=some (.bool (A8 AJ xs k).doom):=(hb.cell hbl).trans (hc k hlt 3 (by decide));have E0:AL AJ xs k 0=.int .i64 (A8 AJ xs k).level:=rfl;have E1:AL AJ xs k 1=.int .i64 (A8 AJ xs k).page:=rfl;have E2:AL AJ xs k 2=.int .i64 (A8 AJ xs k).table:=rfl;have E3:AL AJ xs k 3=.bool (A8 AJ xs k).doom:=rfl;generalize (A8 AJ xs k).level=A at *;generalize (A8 AJ xs k).page=B at *;generalize (A8 AJ xs k).table=C at *;generalize (A8 AJ xs k).doom=D at *;(have L1:(0:Int)<=(k:Int):=by omega);(have L2:(k:Int)<(xs.length:Int):=by omega);have HF:Hid _:=hf;have HROW:Hid (wr.rowIs w.heap.size _ _ f):=hrow;have HB:Hid (Below _ _ _):=hb;have hrl:=hrow.lt;have HE0:Hid _:=E0;have HE1:Hid _:=E1;have HE2:Hid _:=E2;have HE3:Hid _:=E3;clear hc ha hf hrow hb E0 E1 E2 E3 hbm hr0;(go_wp2_with fail);refine(ME A B C D wr).mono ?_;rintro e w1 ⟨rfl,hb1⟩;have hrow1:w1.rowIs w.heap.size 113 (xs.length*4) f:=HROW.out.of_block (hb1.block _ hrl);have f0:=hrow1.frozen (k*4);have o0:=hrow1.cell (i:=k*4) (by omega);have f1:=hrow1.frozen (k*4+1);have o1:=hrow1.cell (i:=k*4+1) (by omega);have f2:=hrow1.frozen (k*4+2);have o2:=hrow1.cell (i:=k*4+2) (by omega);have f3:=hrow1.frozen (k*4+3);have o3:=hrow1.cell (i:=k*4+3) (by omega);generalize f (k*4)=u100 at o0;generalize f (k*4+1)=u101 at o1;generalize f (k*4+2)=u102 at o2;generalize f (k*4+3)=u103 at o3;have HR1:Hid (w1.rowIs w.heap.size _ _ f):=hrow1;have HB1:Hid (Below _ _ _):=hb1;clear hrow1 hb1 c0 c1 c2 c3;(go_wp2_with fail);go_roundw;case rel =>
    refine⟨k+1,by omega,by go_num,⟨_,(((HR1.out.set (k*4) _).set (k*4+1) _).set (k*4+2) _).set (k*4+3) _,?_⟩,?_⟩
    ·intro i hi j hj;by_cases e:i=k
     ·subst e;rcases(show j=0\/j=1\/j=2\/j=3 by omega) with rfl|rfl|rfl|rfl
      ·rw[HE0.out];simp
      ·rw[HE1.out];simp
      ·rw[HE2.out];simp
      ·rw[HE3.out];simp
     ·(have hik:i<k:=by omega);rw[<- HF.out i hik j hj];rw[if_neg (by omega)];rw[if_neg (by omega)];rw[if_neg (by omega)];rw[if_neg (by omega)]
    ·exact(((((HB.out.trans (HB1.out.mono (by omega))).setCell (Nat.le_refl _) _).setCell (Nat.le_refl _) _).setCell (Nat.le_refl _) _).setCell (Nat.le_refl _) _)
   case measure=>simp[intOf];omega
  ·(have e:k=xs.length:=by omega);subst e;clear ha;(go_wp2_with fail);go_ret;exact⟨rfl,A6.of_row rfl (Nat.le_refl _) hrow rfl (Nat.le_refl _) (by unfold maxLen;omega) hf,hb⟩
def Dq (s:Int) (i j:Nat):Value :=
 match j with
 | 0=>.int .i64 (s+i*4)
 | 1=>.int .i64 (s+i*4+1)
 | 2=>.int .i64 (s+i*4+1+1)
 | 3=>.bool ((s+i*4+1+1+1)%3==0)
 | _=>.bool false
theorem J9(v:Value)(bv:Nat)(xs:List CI)(s:Int)(w:World)(hs0:0<=s)(hs1:s<=100000000)(hn:xs.length<=1048576)(hv:A6 AJ w bv v xs):Calls prog 61 #[v,.int .i64 s] w fun e w'=>e=.returned (.int .i64 (s+xs.length*4))/\Bu AJ w' v xs.length (Dq s)/\w.grownBy w' v.ownBlock:=by
 obtain⟨a,c,rfl,ha⟩:=hv.form;by_cases h0:xs.length=0
 ·rw[h0];clear ha hv;go_enter func61,ntmps61
  go_wp2
  go_loopw [1,5] (fun m i wr=>i=.int .i64 0/\m=.int .i64 s/\wr=w) (fun _ i _=>0)
  case atStart=>exact⟨rfl,rfl,rfl⟩
  case round =>
   obtain⟨rfl,rfl,rfl⟩:=hrel;(go_wp2);go_ret;exact⟨by simp,⟨a,c,rfl,fun h=>absurd h (by omega)⟩,World.grownBy.refl _ _⟩
 ·obtain⟨g,N,f,rfl,_,hr,hN,hf⟩:=ha (by omega);have hN':xs.length*4<=N:=hN;clear ha hf hv hN;go_enter func61,ntmps61
  go_wp2
  go_loopw [1,5] (fun m i wr=>∃k:Nat,k<=xs.length/\i=.int .i64 k/\m=.int .i64 (s+k*4)/\(∃f,wr.rowIs g 113 N f/\∀i,i<k->∀j,j<4->f (i*4+j)=Dq s i j)/\w.grownBy wr (some g)) (fun _ i _=>xs.length-(intOf i).toNat)
  case atStart=>exact⟨0,Nat.zero_le _,rfl,by simp,⟨_,hr,fun i hi=>absurd hi (by omega)⟩,World.grownBy.refl _ _⟩
  case round =>
   obtain⟨k,hk,rfl,rfl,⟨f,hrow,hf⟩,hb⟩:=hrel;by_cases hlt:k<xs.length
   ·have HF:Hid _:=hf;have HROW:Hid (wr.rowIs g _ N f):=hrow;have HB:Hid (w.grownBy wr _):=hb;have f0:=hrow.frozen (k*4);have o0:=hrow.cell (i:=k*4) (by omega);have f1:=hrow.frozen (k*4+1);have o1:=hrow.cell (i:=k*4+1) (by omega);have f2:=hrow.frozen (k*4+2);have o2:=hrow.cell (i:=k*4+2) (by omega);have f3:=hrow.frozen (k*4+3);have o3:=hrow.cell (i:=k*4+3) (by omega);generalize f (k*4)=u100 at o0;generalize f (k*4+1)=u101 at o1;generalize f (k*4+2)=u102 at o2;generalize f (k*4+3)=u103 at o3;(have L1:(0:Int)<=(k:Int):=by omega);(have L2:(k:Int)<(xs.length:Int):=by omega);clear hf hrow hb hr;(go_wp2);go_roundw;case rel =>
     refine⟨k+1,by omega,by go_num,by go_num,⟨_,(((HROW.out.set (k*4) _).set (k*4+1) _).set (k*4+2) _).set (k*4+3) _,?_⟩,AN (AN (AN (AN (HB.out) _ _) _ _) _ _) _ _⟩;intro i hi j hj;by_cases e:i=k
     ·subst e;rcases(show j=0\/j=1\/j=2\/j=3 by omega) with rfl|rfl|rfl|rfl
      ·simp[Dq]
      ·simp[Dq]
      ·simp[Dq]
      ·simp[Dq]
     ·(have hik:i<k:=by omega);rw[<- HF.out i hik j hj];rw[if_neg (by omega)];rw[if_neg (by omega)];rw[if_neg (by omega)];rw[if_neg (by omega)]
    case measure=>simp[intOf];omega
   ·(have e:k=xs.length:=by omega);subst e;(go_wp2);go_ret;exact⟨rfl,⟨_,c,rfl,fun _=>⟨g,N,f,rfl,hrow,hN',hf⟩⟩,hb⟩
theorem JG(v:Value)(n:Nat)(s:Int)(w:World)(hs0:0<=s)(hs1:s<=100000000)(hn:n<=1048576)(hv:Bu AJ w v n (Dq s)):Calls prog 65 #[v,.int .i64 s] w fun e w'=>e=.returned (.int .i64 (s+n*4))/\Below w.heap.size w w':=by
 obtain⟨a,c,rfl,ha⟩:=hv;go_enter func65,ntmps65
 go_wp2
 go_loopw [1,5] (fun m i wr=>∃k:Nat,k<=n/\i=.int .i64 k/\m=.int .i64 (s+k*4)/\Below w.heap.size w wr) (fun _ i _=>n-(intOf i).toNat)
 case atStart=>exact⟨0,Nat.zero_le _,rfl,by simp,Below.refl _ _⟩
 case round =>
  obtain⟨k,hk,rfl,rfl,hb⟩:=hrel;by_cases hlt:k<n
  ·obtain⟨g,N,f,rfl,hr,hN,hf⟩:=ha (by omega);have hN':n*4<=N:=hN;have hr1:wr.rowIs g 113 N f:=hr.of_block (hb.block g hr.lt);have q0:=hr1.cell (i:=k*4) (by omega);have q1:=hr1.cell (i:=k*4+1) (by omega);have q2:=hr1.cell (i:=k*4+2) (by omega);have q3:=hr1.cell (i:=k*4+3) (by omega);rw[show f (k*4)=_ from hf k hlt 0 (by decide)] at q0;rw[show f (k*4+1)=_ from hf k hlt 1 (by decide)] at q1;rw[show f (k*4+2)=_ from hf k hlt 2 (by decide)] at q2;rw[show f (k*4+3)=_ from hf k hlt 3 (by decide)] at q3;have c0:wr.cell? ⟨g,k*4,none⟩=some (.int .i64 (s+k*4)):=q0;have c1:wr.cell? ⟨g,k*4+1,none⟩=some (.int .i64 (s+k*4+1)):=q1;have c2:wr.cell? ⟨g,k*4+2,none⟩=some (.int .i64 (s+k*4+1+1)):=q2;have c3:wr.cell? ⟨g,k*4+3,none⟩=some (.bool ((s+k*4+1+1+1)%3==0)):=q3;clear q0 q1 q2 q3;(have L1:(0:Int)<=(k:Int):=by omega);(have L2:(k:Int)<(n:Int):=by omega);clear hf ha hr hr1 hN;(go_wp2);go_roundw;(case rel=>exact⟨k+1,by omega,by go_num,by go_num,hb⟩);case measure=>simp[intOf];omega
  ·(have e:k=n:=by omega);subst e;(go_wp2);go_ret;exact⟨rfl,hb⟩
end Go.Proofs.YtnmhkgmmpkjjeabGreat
