import Derived.Test.YtnmhkgmmpkjjeabGreatE02
import Derived.Outline
import Derived.Deep.DeepCutAuto
namespace Go.Proofs.YtnmhkgmmpkjjeabGreat
open ChangeShapes WideShapes ChangeAt RowKit Proofs.Tryz
set_option linter.all false
set_option maxRecDepth 100000
set_option maxHeartbeats 4000000
attribute [local go_sem ↓] wp_at_zero wp_at_succ
structure Bj (w:World) (g:Nat) (zs:List Int):Prop where
 lt:g<w.heap.size
 cells:∀i,i<zs.length->w.cell? ⟨g,i,none⟩=some (.int .u64 (zs.getD i 0))
theorem Bj.cell{w:World}{g:Nat}{zs:List Int}(h:Bj w g zs){i:Nat}(hi:i<zs.length):w.cell? ⟨g,i,none⟩=some (.int .u64 (zs.getD i 0)):=h.cells i hi
theorem Bj.of_block{w w':World}{g:Nat}{zs:List Int}(h:Bj w g zs)(hb:w'.heap[g]?=w.heap[g]?):Bj w' g zs :=
 ⟨by
  have h1:=h.lt
  rw[Array.getElem?_eq_getElem h1] at hb
  exact(Array.getElem?_eq_some_iff.1 hb).1,fun i hi=>(World.cell?_of_block (a:=⟨g,i,none⟩) hb).trans (h.cells i hi)⟩
theorem Bj.below{w w':World}{g B:Nat}{zs:List Int}(h:Bj w g zs)(hb:Below B w w')(hg:g<B):Bj w' g zs:=h.of_block (hb.block g hg)
theorem F5.c{w:World}{g:Nat}{zs:List Int}(h:F5 w g zs):Bj w g zs:=⟨h.lt,fun i hi=>h.cell hi⟩
theorem Em:(prog.info? 172).map (fun i=>(i.zero,i.size,i.bytes))=some (some (.agg #[.int .i64 0,.int .i64 0,.int .i64 0]),3,24):=by kernel_rfl
theorem CQ(a:Option Addr)(m c:Nat)(hm:m<=17592186044416)(w:World):Calls prog 86 #[.agg #[.slice a m c]] w fun e w'=>e=.returned (.int .i64 (BS m))/\Below w.heap.size w w':=by
 by_cases h1:m<16
 ·have e:BS m=0:=by unfold BS;rw[if_pos (.inl h1)]
  rw[e];have h1':(m:Int)<16:=by omega
  go_enter func86,ntmps86
  go_wp2
  go_ret;exact⟨rfl,(Below.refl _ _).alloc (Nat.le_refl _) _⟩
 ·by_cases h2:8192<m
  ·(have e:BS m=0:=by unfold BS;rw[if_pos (.inr (.inl h2))]);rw[e];(have h1':(16:Int)<=m:=by omega);(have h2':(8192:Int)<m:=by omega);(go_enter func86,ntmps86);(go_wp2);go_ret;exact⟨rfl,(Below.refl _ _).alloc (Nat.le_refl _) _⟩
  ·(have h1':(16:Int)<=m:=by omega);(have h2':(m:Int)<=8192:=by omega);by_cases h3:m%16=0
   ·(have e:BS m=(m:Int)/16:=by unfold BS;rw[if_neg (by omega)];simp);rw[e];(have h3':((m:Int)%16 != 0)=false:=by simp;omega);clear e;(go_enter func86,ntmps86);(go_wp2);go_ret;exact⟨rfl,(Below.refl _ _).alloc (Nat.le_refl _) _⟩
   ·(have e:BS m=0:=by unfold BS;rw[if_pos (.inr (.inr h3))]);rw[e];(have h3':((m:Int)%16 != 0)=true:=by simp;omega);clear e;(go_enter func86,ntmps86);(go_wp2);go_ret;exact⟨rfl,(Below.refl _ _).alloc (Nat.le_refl _) _⟩
theorem C2(l:Int)(w:World):Calls prog 71 #[.int .i64 l] w fun e w'=>e=.returned (.int .i64 (Ab l))/\w'=w:=by
 by_cases h1:l=1
 ·subst h1;go_enter func71,ntmps71
  go_wp2
  go_ret;exact⟨rfl,rfl⟩
 ·by_cases h2:l=2
  ·subst h2;(go_enter func71,ntmps71);(go_wp2);go_ret;exact⟨rfl,rfl⟩
  ·(have e:Ab l=1:=by simp[Ab,h1,h2]);rw[e];(have h1':(l==1)=false:=by simpa using h1);(have h2':(l==2)=false:=by simpa using h2);clear e h1 h2;(go_enter func71,ntmps71);(go_wp2);go_ret;exact⟨rfl,rfl⟩
theorem Iv(w:World)(base:Nat)(hb:base<=w.heap.size)(p:P3):BK (w.alloc (.cells #[.int .i64 p.fr,.int .i64 p.lv,.int .i64 p.pg] 172)) base (.slice (some ⟨w.heap.size,0,none⟩) 1 1) [p] :=
 ⟨rfl,.inr ⟨w.heap.size,1,_,rfl,hb,heap_alloc_new w _,Nat.le_refl _,by unfold maxLen;omega,rfl,rfl⟩⟩
theorem Jx(g:Nat)(n c:Nat)(p:P3)(hp:p.lv=3)(w:World):Calls prog 142 #[.agg #[.slice (some ⟨g,0,none⟩) n c],.agg #[.int .i64 p.fr,.int .i64 p.lv,.int .i64 p.pg]] w fun e w'=>∃a c,e=.returned (.slice a [p].length c)/\BK w' w.heap.size (.slice a [p].length c) [p]/\Below w.heap.size w w':=by
 have hn:=Iv ((w.alloc (.cells #[.slice (some ⟨g,0,none⟩) n c] 31)).alloc (.cells #[.int .i64 p.fr,.int .i64 p.lv,.int .i64 p.pg] 172)) w.heap.size (by simp;omega) p;rw[hp] at hn ⊢;simp only[World.size_alloc] at hn;have HN:Hid (BK _ _ _ _):=hn;clear hn;go_enter func142,ntmps142
 go_wp2_with fail
 go_ret;exact⟨_,_,rfl,HN.out,(((Below.refl _ _).alloc (Nat.le_refl _) _).alloc (by simp) _).alloc (by simp<;>omega) _⟩
theorem Je(g:Nat)(zs:List Int)(c d:Nat)(p:P3)(F:Nat)(hF:p.fr=F)(hF2:F*16+16<=zs.length)(hlen:zs.length<=8192)(hl1:1<=p.lv)(hl2:p.lv<=2)(hp0:0<=p.pg)(hp1:p.pg<=4096*p.lv)(rec:P3->List P3)(hB:∀q,(rec q).length<=300)(n:Int)(hn:n=BS zs.length)(hd:∀i,i<16->∀w,Calls prog 124 #[.int .i64 p.lv,.int .u64 (Af zs p.fr i)] w fun e w'=>e=.returned (.agg #[.int .i64 (AZ p.lv (Af zs p.fr i)),.int .i64 (Bz p.lv (Af zs p.fr i)),.int .i64 (Bq p.lv (Af zs p.fr i))])/\Below w.heap.size w w')(ih:∀i w,i<16->Ea zs n p i=true->Bj w g zs->Calls prog 142 #[.agg #[.slice (some ⟨g,0,none⟩) zs.length c],.agg #[.int .i64 (under zs p i).fr,.int .i64 (under zs p i).lv,.int .i64 (under zs p i).pg]] w fun e w'=>∃a c,e=.returned (.slice a (rec (under zs p i)).length c)/\BK w' w.heap.size (.slice a (rec (under zs p i)).length c) (rec (under zs p i))/\Below w.heap.size w w')(w:World)(hg:Bj w g zs):Calls prog 142 #[.agg #[.slice (some ⟨g,0,none⟩) zs.length c],.agg #[.int .i64 p.fr,.int .i64 p.lv,.int .i64 p.pg]] w fun e w'=>∃a c,e=.returned (.slice a (Ak zs n rec p 16).length c)/\BK w' w.heap.size (.slice a (Ak zs n rec p 16).length c) (Ak zs n rec p 16)/\Below w.heap.size w w':=by
 obtain⟨w2,hw2⟩:∃w2,w2=(w.alloc (.cells #[.slice (some ⟨g,0,none⟩) zs.length c] 31)).alloc (.cells #[.int .i64 p.fr,.int .i64 p.lv,.int .i64 p.pg] 172):=⟨_,rfl⟩
 have hn0:=Iv w2 (w.heap.size+2) (by rw[hw2];simp) p;have hz2:w2.heap.size=w.heap.size+2:=by rw[hw2];simp
 have hb2:Below w.heap.size w w2:=by rw[hw2];exact((Below.refl _ _).alloc (Nat.le_refl _) _).alloc (by simp) _
 have q0:w2.cell? ⟨w.heap.size,0,none⟩=some (.slice (some ⟨g,0,none⟩) zs.length c):=by rw[hw2];simp[go_sem]
 have q1:w2.cell? ⟨w.heap.size+1,0,none⟩=some (.int .i64 p.fr):=by rw[hw2];simp[go_sem]
 have q2:w2.cell? ⟨w.heap.size+1,1,none⟩=some (.int .i64 p.lv):=by rw[hw2];simp[go_sem]
 have q3:w2.cell? ⟨w.heap.size+1,2,none⟩=some (.int .i64 p.pg):=by rw[hw2];simp[go_sem]
 have hg2:Bj w2 g zs:=hg.below hb2 hg.lt;have HQ:Hid (w2.cell? ⟨w.heap.size,0,none⟩=some (.slice (some ⟨g,0,none⟩) zs.length c)/\w2.cell? ⟨w.heap.size+1,0,none⟩=some (.int .i64 p.fr)/\w2.cell? ⟨w.heap.size+1,1,none⟩=some (.int .i64 p.lv)/\w2.cell? ⟨w.heap.size+1,2,none⟩=some (.int .i64 p.pg)):=⟨q0,q1,q2,q3⟩;have HN:Hid (BK _ _ _ _):=hn0;have HZ:Hid (w2.heap.size=w.heap.size+2):=hz2;have HW2:Hid (w2=_):=hw2;have HIH:Hid _:=ih;have HD:Hid _:=hd;have HF:Hid (p.fr=F):=hF;have HNN:Hid (n=BS zs.length):=hn;clear hn0 hz2 hw2 q0 q1 q2 q3 ih hd hg hF hn;go_enter func142,ntmps142
 go_wp2_with fail
 go_loopw [5,6] (fun v i wr=>∃k:Nat,k<=16/\i=.int .i64 k/\BK wr (w.heap.size+2) v (Ak zs n rec p k)/\Below (w.heap.size+2) w2 wr) (fun _ i _=>16-(intOf i).toNat)
 case atStart =>
  refine⟨0,by omega,rfl,?_,?_⟩
  ·have h:=HN.out;rw[HZ.out,HW2.out] at h;exact h
  ·rw[HW2.out];exact(Below.refl (w.heap.size+2) _).alloc (by simp) _
 case round =>
  obtain⟨k,hk,rfl,hrow,hb⟩:=hrel;have hBL:=D0 zs n rec p 300 hB k;by_cases hlt:k<16
  ·obtain⟨q0,q1,q2,q3⟩:=HQ.out;have hs:=HZ.out;have hsz:=hb.size;have c0:=(hb.cell (p:=⟨w.heap.size,0,none⟩) (by simp)).trans q0;have c1:=(hb.cell (p:=⟨w.heap.size+1,0,none⟩) (by simp)).trans q1;have c2:=(hb.cell (p:=⟨w.heap.size+1,1,none⟩) (by simp)).trans q2;have c3:=(hb.cell (p:=⟨w.heap.size+1,2,none⟩) (by simp)).trans q3;have hgr:Bj wr g zs:=hg2.below hb (by have:=hg2.lt;omega);have cw:=hgr.cell (i:=F*16+k) (by omega);(have ew:zs.getD (F*16+k) 0=Af zs p.fr k:=by simp[Af,HF.out];congr 1);rw[ew] at cw;rw[HF.out] at c1;have hdk:=HD.out k hlt;(have hn2:w.heap.size+2<=wr.heap.size:=by omega);have hgl:=hgr.lt;have dO:=Cp p.lv (Af zs p.fr k);have hdd:=El zs n rec p k;have hih:=HIH.out k;unfold under at hih;unfold Ea at hih hdd;unfold under at hdd;have HDD:Hid _:=hdd;have HIK:Hid _:=hih;have HRW:Hid (BK _ _ _ _):=hrow;have HGR:Hid (Bj _ _ _):=hgr;have HB:Hid (Below _ _ _):=hb;have HB2:Hid (Below _ _ _):=hb2;clear q0 q1 q2 q3 hs hsz ew hdd hih hrow hgr hb hb2 hg2;generalize Af zs p.fr k=X at *;generalize AZ p.lv X=K at *;generalize Bz p.lv X=O at *;generalize Bq p.lv X=M at *;(have L1:(0:Int)<=(F:Int)*16+(k:Int):=by omega);(have L2:(F:Int)*16+(k:Int)<(zs.length:Int):=by omega);(have W1:IntKind.i64.wrap ((F:Int)*16)=(F:Int)*16:=by rw[IntKind.wrap_i64];omega);(have W2:IntKind.i64.wrap ((F:Int)*16+(k:Int))=(F:Int)*16+(k:Int):=by rw[IntKind.wrap_i64];omega);(have T1:((F:Int)*16+(k:Int)).toNat=F*16+k:=by omega);(go_upto_region 7 with fail);(go_cut [7] (fun d7 wx=>∃D,d7=.pointer (some ⟨D,0,none⟩)/\wx.cell? ⟨D,0,none⟩=some (.int .i64 K)/\wx.cell? ⟨D,1,none⟩=some (.int .i64 O)/\wr.heap.size<=D/\D<wx.heap.size/\Below wr.heap.size wr wx));case first =>
    have HK:Hid (∀wX,Below wr.heap.size wr wX->wX.cell? ⟨w.heap.size,0,none⟩=some (.slice (some ⟨g,0,none⟩) zs.length c)/\wX.cell? ⟨w.heap.size+1,0,none⟩=some (.int .i64 F)/\wX.cell? ⟨w.heap.size+1,1,none⟩=some (.int .i64 p.lv)/\wX.cell? ⟨g,F*16+k,none⟩=some (.int .u64 X)) :=
     fun wX h=>⟨(h.cell (by simp;omega)).trans c0,(h.cell (by simp;omega)).trans c1,(h.cell (by simp;omega)).trans c2,(h.cell (by simpa using hgl)).trans cw⟩
    go_region_held3 (fun w'=>w'.cell? ⟨w.heap.size,0,none⟩=some (.slice (some ⟨g,0,none⟩) zs.length c)/\w'.cell? ⟨w.heap.size+1,0,none⟩=some (.int .i64 F)/\w'.cell? ⟨w.heap.size+1,1,none⟩=some (.int .i64 p.lv)/\w'.cell? ⟨g,F*16+k,none⟩=some (.int .u64 X))
     ((refine HK.out _ ?_;repeat (first|exact Below.refl _ _|with_reducible refine Below.drew ?_|with_reducible refine Below.setCell ?_ (by first|omega|(simp<;>omega)) _|with_reducible refine Below.alloc ?_ (by first|omega|(simp<;>omega)) _|refine Below.trans ?_ (hb1.mono (by first|omega|(simp<;>omega))))))
     (first|(go_at_call 124;refine(hdk _).mono ?_;rintro e w1 ⟨rfl,hb1⟩;obtain⟨hc1,hf1⟩:=GN hb1;have hz1:=hb1.size;simp at hz1))
    all_goals
     go_wp2_with fail
     go_meet
     case rel =>
      refine⟨_,rfl,?_,?_,?_,?_,?_⟩
      ·simp[go_sem,hc1]
      ·simp[go_sem,hc1]
      ·first|omega|(simp<;>omega)
      ·first|omega|(simp<;>omega)
      ·repeat (first|exact Below.refl _ _|with_reducible refine Below.drew ?_|with_reducible refine Below.setCell ?_ (by first|omega|(simp<;>omega)) _|with_reducible refine Below.alloc ?_ (by first|omega|(simp<;>omega)) _|refine Below.trans ?_ (hb1.mono (by first|omega|(simp<;>omega))))
   case rest =>
    obtain⟨D,rfl,d0,d1,hD1,hD2,hbx⟩:=hcut;have hfr:=CQ (some ⟨g,0,none⟩) zs.length c (by omega);rw[<- HNN.out] at hfr;have e0:=(hbx.cell (p:=⟨w.heap.size,0,none⟩) (by simp;omega)).trans c0;have e1:=(hbx.cell (p:=⟨w.heap.size+1,0,none⟩) (by simp;omega)).trans c1;have e2:=(hbx.cell (p:=⟨w.heap.size+1,1,none⟩) (by simp;omega)).trans c2;have e3:=(hbx.cell (p:=⟨w.heap.size+1,2,none⟩) (by simp;omega)).trans c3;have HBX:Hid (Below _ _ _):=hbx;clear c0 c1 c2 c3 cw hdk W1 W2 T1 L1 L2 hbx;by_cases hK:K=1
    ·subst hK;by_cases hO:O<n
     ·(have hO':decide (O<n)=true:=by simpa using hO);have hcov:=C2 p.lv;have hC0:=Ek p.lv;have hrec:=HIK.out;simp only[hO',decide_true,Bool.and_true] at hrec;have hx:Ak zs n rec p (k+1)=Ak zs n rec p k++rec ⟨O,p.lv+1,p.pg+k*Ab p.lv⟩:=by
       have h:=HDD.out;rw[hO'] at h;simpa using h
      have hRB:=hB ⟨O,p.lv+1,p.pg+k*Ab p.lv⟩;have HX:Hid _:=hx;generalize Ab p.lv=C at *;have y0:0<=(k:Int)*C:=Int.mul_nonneg (by omega) hC0.1;have y1:(k:Int)*C<=15*256:=Int.mul_le_mul (by omega) hC0.2 hC0.1 (by omega);(have Wy:IntKind.i64.wrap ((k:Int)*C)=(k:Int)*C:=by rw[IntKind.wrap_i64];omega);(have Wz:IntKind.i64.wrap (p.pg+(k:Int)*C)=p.pg+(k:Int)*C:=by rw[IntKind.wrap_i64];omega);(have Wl:IntKind.i64.wrap (p.lv+1)=p.lv+1:=by rw[IntKind.wrap_i64];omega);have HREC:Hid _:=hrec;clear hx hrec HDD HIK HIH HD;(go_wp2_with fail);go_region_held3 (fun w'=>w'.cell? ⟨D,0,none⟩=some (.int .i64 1)/\w'.cell? ⟨D,1,none⟩=some (.int .i64 O)/\w'.cell? ⟨w.heap.size,0,none⟩=some (.slice (some ⟨g,0,none⟩) zs.length c))
       (first|go_keep|(go_split_ands;refine⟨?_,?_,?_⟩<;>(rw[hb1.cell (by first|omega|(simp<;>omega))];simp;assumption)))
       (first|(go_at_call 86;refine(hfr _).mono ?_;rintro e w1 ⟨rfl,hb1⟩))
      have hbw1:Below wc.heap.size wc w1:=(Below.refl _ _).drew.trans (hb1.mono (by first|omega|(simp<;>omega)));have d1':=(hbw1.cell (p:=⟨D,1,none⟩) (by first|omega|(simp<;>omega))).trans d1;have e0':=(hbw1.cell (p:=⟨w.heap.size,0,none⟩) (by first|omega|(simp<;>omega))).trans e0;have e2':=(hbw1.cell (p:=⟨w.heap.size+1,1,none⟩) (by first|omega|(simp<;>omega))).trans e2;have e3':=(hbw1.cell (p:=⟨w.heap.size+1,2,none⟩) (by first|omega|(simp<;>omega))).trans e3;have HBW:Hid (Below _ wc w1):=hbw1;have hs1:=hbw1.size;clear d0 d1 e0 e1 e2 e3 hfr hb1 hbw1;(go_upto_region 9 with fail);(go_cut [8] (fun d8 wx=>∃E,d8=.pointer (some ⟨E,0,none⟩)/\wx.cell? ⟨E,0,none⟩=some (.int .i64 O)/\wx.cell? ⟨E,1,none⟩=some (.int .i64 (p.lv+1))/\wx.cell? ⟨E,2,none⟩=some (.int .i64 (p.pg+(k:Int)*C))/\E<wx.heap.size/\Below w1.heap.size w1 wx));case first =>
       have HK:Hid (∀wX,Below w1.heap.size w1 wX->wX.cell? ⟨D,1,none⟩=some (.int .i64 O)/\wX.cell? ⟨w.heap.size+1,1,none⟩=some (.int .i64 p.lv)/\wX.cell? ⟨w.heap.size+1,2,none⟩=some (.int .i64 p.pg)) :=
        fun wX h=>⟨(h.cell (by first|omega|(simp<;>omega))).trans d1',(h.cell (by first|omega|(simp<;>omega))).trans e2',(h.cell (by first|omega|(simp<;>omega))).trans e3'⟩
       go_region_held3 (fun w'=>w'.cell? ⟨D,1,none⟩=some (.int .i64 O)/\w'.cell? ⟨w.heap.size+1,1,none⟩=some (.int .i64 p.lv)/\w'.cell? ⟨w.heap.size+1,2,none⟩=some (.int .i64 p.pg))
        ((refine HK.out _ ?_;repeat (first|exact Below.refl _ _|with_reducible refine Below.drew ?_|with_reducible refine Below.setCell ?_ (by first|omega|(simp<;>omega)) _|with_reducible refine Below.alloc ?_ (by first|omega|(simp<;>omega)) _)))
        (first|(go_at_call 71;refine(hcov _).mono ?_;rintro e w3 ⟨rfl,rfl⟩))
       all_goals
        go_wp2_with fail
        go_meet
        case rel =>
         refine⟨_,rfl,?_,?_,?_,?_,?_⟩
         ·simp[go_sem]
         ·simp[go_sem]
         ·simp[go_sem]
         ·first|omega|(simp<;>omega)
         ·repeat (first|exact Below.refl _ _|with_reducible refine Below.drew ?_|with_reducible refine Below.setCell ?_ (by first|omega|(simp<;>omega)) _|with_reducible refine Below.alloc ?_ (by first|omega|(simp<;>omega)) _)
      case rest =>
       obtain⟨E,rfl,f0,f1,f2,hE,hbE⟩:=hcut;(obtain⟨wd,rfl⟩:∃wd:World,wd=wc:=⟨_,rfl⟩);have e0'':=(hbE.cell (p:=⟨w.heap.size,0,none⟩) (by first|omega|(simp<;>omega))).trans e0';have HBE:Hid (Below _ _ _):=hbE;clear e0' d1' e2' e3' hbE hcov Wy Wz Wl;have hrec:=HREC.out;generalize rec ⟨O,p.lv+1,p.pg+k*C⟩=R at *;have hbwd:Below wr.heap.size wr wd:=HBX.out.trans ((HBW.out.mono (by omega)).trans (HBE.out.mono (by have:=HBX.out.size;omega)));have hgd:Bj wd g zs:=HGR.out.below hbwd hgl;have hrd:BK wd (w.heap.size+2) u5 (Ak zs n rec p k):=HRW.out.below hbwd;clear HREC;(go_wp2_with fail);refine(hrec wd hlt trivial hgd).mono ?_;rintro e we ⟨ab,cb,rfl,hvb,hbe⟩;obtain⟨ab',cb',hab,hform⟩:=hvb.form;have hbwe:Below wr.heap.size wr we:=hbwd.trans (hbe.mono hbwd.size);have hre:BK we (w.heap.size+2) u5 (Ak zs n rec p k):=hrd.below hbe;(have hu5:∀q,u5.ownBlock=some q->q<wd.heap.size:=fun q hq=>(World.ownsRow.lt hrd q hq).2);have HFM:Hid (0<R.length->∃gb N f,ab=some ⟨gb,0,none⟩/\wd.heap.size<=gb/\we.rowIs gb 172 N f/\R.length*3<=N/\∀i,i<R.length->f (i*3)=.int .i64 (BQ R i).fr/\f (i*3+1)=.int .i64 (BQ R i).lv/\f (i*3+2)=.int .i64 (BQ R i).pg):=by
        intro h0;obtain⟨gb,N,f,h1,h2,h3,h4,h5⟩:=hform h0;simp only[Value.slice.injEq] at hab;exact⟨gb,N,f,hab.1.trans h1,h2,h3,h4,h5⟩
       have HRE:Hid (BK _ _ _ _):=hre;have HU5:Hid _:=hu5;have HBWE:Hid (Below _ _ _):=hbwe;have hwe:=hbwe.size;clear hrec hgd hrd hvb hbe hform hab hre hu5 hbwe hbwd f0 f1 f2 e0'';(go_wp2_with fail);(obtain⟨wro,hwro⟩:∃wro:World,wro=wr:=⟨_,rfl⟩);have HWRO:Hid _:=hwro;clear hwro;(go_loopw [5,10] (fun v jv wx=>∃t:Nat,t<=R.length/\jv=.int .i64 t/\BK wx (w.heap.size+2) v (Ak zs n rec p k++R.take t)/\(∀gb,ab=some ⟨gb,0,none⟩->0<R.length->v.ownBlock≠some gb/\wx.heap[gb]?=we.heap[gb]?)/\we.heap.size<=wx.heap.size/\Below (w.heap.size+2) w2 wx) (fun _ jv _=>R.length-(intOf jv).toNat));case atStart =>
        refine⟨0,Nat.zero_le _,rfl,?_,?_,Nat.le_refl _,?_⟩
        ·rw[List.take_zero,List.append_nil];exact HRE.out
        ·intro gb hgb h0;obtain⟨gb',N,f,h1,h2,h3,h4,h5⟩:=HFM.out h0;rw[hgb] at h1;simp only[Option.some.injEq,Addr.mk.injEq] at h1;refine⟨fun hq=>?_,rfl⟩;have:=HU5.out gb hq;omega
        ·exact HB.out.trans (HBWE.out.mono (by omega))
       case round =>
        obtain⟨t,ht,rfl,hpr,hgbk,hszx,hbx2⟩:=hrel;have hlen2:(Ak zs n rec p k++R.take t).length<=10000:=by
         rw[List.length_append,List.length_take];omega
        by_cases hlt2:t<R.length
        ·obtain⟨gb,N,f,rfl,hgb,hrow,hN,hf⟩:=HFM.out (by omega);obtain⟨hne,hblk⟩:=hgbk gb rfl (by omega);have hr1:wr.rowIs gb _ N f:=hrow.of_block hblk;have hgbl:=hr1.lt;obtain⟨x1,x2,x3⟩:=hf t hlt2;have k1:=hr1.cell (i:=t*3) (by omega);have k2:=hr1.cell (i:=t*3+1) (by omega);have k3:=hr1.cell (i:=t*3+2) (by omega);rw[x1] at k1;rw[x2] at k2;rw[x3] at k3;have htk:R.take (t+1)=R.take t++[BQ R t]:=by
          rw[List.take_succ_eq_append_getElem hlt2];simp[BQ,hlt2]
         have HTK:Hid _:=htk;have HROW:Hid (wr.rowIs gb _ N f):=hr1;have HBLK:Hid _:=hblk;have HGBK:Hid _:=hgbk;have HPR:Hid (BK _ _ _ _):=hpr;have HBX2:Hid (Below _ _ _):=hbx2;have HNE:Hid _:=hne;clear x1 x2 x3 hf htk hr1 hrow hblk hgbk hpr hbx2 hne;generalize BQ R t=q at *;obtain⟨i0,hi,hz0,hz1,hz2⟩:=info_parts Em;have hwb:=HBX2.out.size;(have M1:(0:Int)<=(t:Int):=by omega);(have M2:(t:Int)<(R.length:Int):=by omega);(go_wp2_with (at_builtin;refine wpList_append_lies _ rfl (.tmp 66) (.tmp 71) 168 rfl (w.heap.size+2) 172 i0 _ 3 24 underlying168 hi hz0 hz1 hz2 rfl (by omega) _ _ _ rfl (World.ownsRow.alloc HPR.out _) ⟨wr.heap.size,0,none⟩ 1 1 [.int .i64 q.fr,.int .i64 q.lv,.int .i64 q.pg] rfl rfl ?c1 ?c2 (by omega) ?c3 ?c4 ?c5 (wr.heap.size+1) ?c6 ?_));(case c1=>exact World.news_of_block (heap_alloc_new wr (.cells #[.int .i64 q.fr,.int .i64 q.lv,.int .i64 q.pg] 172)));(case c2=>intro u hu;simp at hu;rcases hu with rfl|rfl|rfl<;>rfl);(case c3=>unfold maxLen;omega);(case c4=>omega);(case c5=>simp;omega);(case c6=>simp);intro g1 cap1 wn hown hgrow hat hlt3;have hnew:BK wn (w.heap.size+2) (.slice (some ⟨g1,0,none⟩) ((Ak zs n rec p k).length+t+1) cap1) (Ak zs n rec p k++R.take (t+1)):=by
          unfold BK;(have e1:(Ak zs n rec p k++R.take (t+1)).length=(Ak zs n rec p k).length+t+1:=by rw[List.length_append,List.length_take];omega);have e2:Ch (Ak zs n rec p k++R.take (t+1))=Ch (Ak zs n rec p k++R.take t)++[.int .i64 q.fr,.int .i64 q.lv,.int .i64 q.pg]:=by
           rw[HTK.out,<- List.append_assoc,DX _ [q]];rfl
          rw[e1,e2];exact hown
         have hbn:Below (w.heap.size+2) w2 wn:=((HBX2.out.alloc (by omega) _).grown hgrow (by simp;omega) (fun q hq=>(World.ownsRow.lt HPR.out q hq).1));(have hszn:we.heap.size<=wn.heap.size:=by have:=hgrow.size;simp at this;omega);have hkeep:∀gb',some (⟨gb,0,none⟩:Addr)=some ⟨gb',0,none⟩->0<R.length->(Value.slice (some ⟨g1,0,none⟩) ((Ak zs n rec p k).length+t+1) cap1).ownBlock≠some gb'/\wn.heap[gb']?=we.heap[gb']?:=by
          intro gb' e0 _;simp only[Option.some.injEq,Addr.mk.injEq,and_true] at e0;subst e0;refine⟨?_,?_⟩
          ·simp only[Value.ownBlock,ne_eq,Option.some.injEq];rcases hat with h|h
           ·intro e0;rw[e0] at h;exact HNE.out h
           ·omega
          ·rw[hgrow.block gb (by simp;omega) (Ne.symm HNE.out),Below.heap_alloc _ _ _ hgbl];exact HBLK.out
         clear hown hgrow hat k1 k2 k3;(go_wp2_with fail);go_roundw;(case rel=>exact⟨t+1,by omega,by go_num,hnew,hkeep,hszn,hbn⟩);case measure=>simp[intOf];omega
        ·(have e:t=R.length:=by omega);have hfin:BK wr (w.heap.size+2) u5 (Ak zs n rec p (k+1)):=by
          rw[HX.out];rw[e,List.take_length] at hpr;exact hpr
         clear hpr hgbk;(go_wp2_with fail);go_roundw;(case rel=>exact⟨k+1,by omega,by go_num,hfin,hbx2⟩);case measure=>simp[intOf];omega
     ·(have hO':decide (O<n)=false:=by simpa using hO);have hx:Ak zs n rec p (k+1)=Ak zs n rec p k:=by
       have h:=HDD.out;rw[hO'] at h;simpa using h
      have HX:Hid _:=hx;clear hx;(go_wp2_with fail);go_region_held3 (fun w'=>w'.cell? ⟨D,0,none⟩=some (.int .i64 1)/\w'.cell? ⟨D,1,none⟩=some (.int .i64 O)/\w'.cell? ⟨w.heap.size,0,none⟩=some (.slice (some ⟨g,0,none⟩) zs.length c))
       (first|go_keep|(go_split_ands;refine⟨?_,?_,?_⟩<;>(rw[hb1.cell (by first|omega|(simp<;>omega))];simp;assumption)))
       (first|(go_at_call 86;refine(hfr _).mono ?_;rintro e w1 ⟨rfl,hb1⟩))
      (go_wp2_with fail);go_roundw;case rel =>
       refine⟨k+1,by omega,by go_num,?_,?_⟩
       ·rw[HX.out];exact HRW.out.below ((HBX.out.drew).trans (hb1.mono (by first|omega|(simp<;>omega))))
       ·exact HB.out.trans (((HBX.out.drew).trans (hb1.mono (by first|omega|(simp<;>omega)))).mono (by omega))
      case measure=>simp[intOf];omega
    ·(have hK':(K==1)=false:=by simpa using hK);(go_wp2_with fail);(go_quiet (fail));(go_wp2_with fail);go_roundw;case rel =>
      refine⟨k+1,by omega,by go_num,?_,?_⟩
      ·have h:=HDD.out;simp only[hK,decide_false,Bool.false_and] at h;rw[h];simp only[Bool.false_eq_true,if_false,List.append_nil];exact HRW.out.below (AS HBX.out _)
      ·exact HB.out.trans ((AS HBX.out _).mono (by omega))
     case measure=>simp[intOf];omega
  ·(have e:k=16:=by omega);subst e;obtain⟨a5,c5,hv5,_⟩:=hrow.form;have HV:Hid (_=Value.slice a5 _ c5):=hv5;clear hv5;(go_wp2_with fail);go_ret;exact⟨a5,c5,congrArg Ending.returned HV.out,by rw[<- HV.out];exact hrow.rebase (by omega),hb2.trans (hb.mono (by omega))⟩
end Go.Proofs.YtnmhkgmmpkjjeabGreat
