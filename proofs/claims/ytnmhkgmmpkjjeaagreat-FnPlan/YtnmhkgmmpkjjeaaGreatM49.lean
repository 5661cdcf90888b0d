import Derived.Test.YtnmhkgmmpkjjeaaGreatM48
import Derived.Test.YtnmhkgmmpkjjeaaGreatM47
namespace Go.Proofs.YtnmhkgmmpkjjeaaGreat
open ChangeShapes WideShapes ChangeAt RowKit Proofs.Tryz
set_option linter.all false
set_option maxRecDepth 100000
set_option maxHeartbeats 16000000
attribute [local go_sem ↓] wp_at_zero wp_at_succ
def Iv (zs:List Int) (n:Int):List Int:=zs++List.replicate (n.toNat-zs.length) 0
def a9:Value->Nat
 | .slice _ n _=>n
 | _=>0
theorem Z3(a:Option Addr)(n c:Nat):a9 (.slice a n c)=n:=rfl
def IP (w:World) (M:List Int) (S:List AE) (e:Ending) (w':World):Prop :=
 ∃g c g2 c2:Nat,e=.returned (.tuple #[.agg #[.slice (some ⟨g,0,none⟩) M.length c],.slice (some ⟨g2,0,none⟩) S.length c2])/\A8 AY w' w.heap.size (.slice (some ⟨g,0,none⟩) M.length c) M/\A8 AA w' w.heap.size (.slice (some ⟨g2,0,none⟩) S.length c2) S/\Bl w w'
theorem Vb{w wb wX:World}{g c g2 c2:Nat}{M:List Int}{S:List AE}(hbb:Bl w wb)(hzb:w.heap.size<wb.heap.size)(hX:Bl wb wX)(hm:A8 AY wX wb.heap.size (.slice (some ⟨g,0,none⟩) M.length c) M)(hs:A8 AA wX wb.heap.size (.slice (some ⟨g2,0,none⟩) S.length c2) S)(v:Value):IP w M S (.returned (.tuple #[.agg #[.slice (some ⟨g,0,none⟩) M.length c],.slice (some ⟨g2,0,none⟩) S.length c2])) (wX.setCell ⟨w.heap.size,0,none⟩ v):=by
 refine⟨g,c,g2,c2,rfl,?_,?_,(hbb.trans (hX.mono (by omega))).setCell (by simp) _⟩
 ·refine(A8.kept hm (B7 (g:=w.heap.size) (World.grownBy.refl _ _) 0 _) (fun k hk=>?_)).rebase (by omega);have:=(hm.own k hk).1;simp;omega
 ·refine(A8.kept hs (B7 (g:=w.heap.size) (World.grownBy.refl _ _) 0 _) (fun k hk=>?_)).rebase (by omega);have:=(hs.own k hk).1;simp;omega
theorem Yo(A:Value)(how:Int)(zs:List Int)(xs ys:List AE)(q1 q2:Nat)(w:World)(h0:0<=how)(h8:how<8)(hT:∀wX,Bl w wX->Calls prog 64 #[A,.int .i64 0,.int .i64 16] wX (AM wX (.tuple #[.int .i64 how,.int .i64 1])))(hP:∀wX,Bl w wX->Calls prog 65 #[A,.int .i64 1] wX fun e w'=>Im wX zs e w')(hS:∀wX,Bl w wX->Calls prog 66 #[A,.int .i64 1,.int .i64 1] wX fun e w'=>IT wX xs q1 e w')(hY:∀wX,Bl w wX->Calls prog 67 #[A,.int .i64 1] wX fun e w'=>IT wX ys q2 e w'):Calls prog 23 #[A] w fun e w'=>IP w zs (if how=7 then ys else xs) e w':=by
 obtain⟨wb,hwb⟩:∃wb,wb=w.alloc (.cells #[.slice none 0 0] 35):=⟨_,rfl⟩
 have hbb:Bl w wb:=by rw[hwb];exact AO
 have hzb:w.heap.size<wb.heap.size:=by rw[hwb];simp
 have HQ:Hid (∀wX,Bl wb wX->wX.cell? ⟨w.heap.size,0,none⟩=some (.slice none 0 0)/\wX.frozen? ⟨w.heap.size,0,none⟩=false):=A6 fun wX hX =>
  ⟨(hX.cell (by simpa using hzb)).trans (by rw[hwb];simp[go_sem]),(hX.frozen (by simpa using hzb)).trans (by rw[hwb];simp[go_sem])⟩
 have HUP:Hid (∀wX,Bl wb wX->Bl w wX):=A6 fun wX hX=>hbb.trans (hX.mono (Nat.le_of_lt hzb))
 have HWB:=A5 hwb;have HFIN:Hid (∀(g c g2 c2:Nat) (S:List AE) wX,Bl wb wX->A8 AY wX wb.heap.size (.slice (some ⟨g,0,none⟩) zs.length c) zs->A8 AA wX wb.heap.size (.slice (some ⟨g2,0,none⟩) S.length c2) S->IP w zs S (.returned (.tuple #[.agg #[.slice (some ⟨g,0,none⟩) zs.length c],.slice (some ⟨g2,0,none⟩) S.length c2])) (wX.setCell ⟨w.heap.size,0,none⟩ (.slice (some ⟨g,0,none⟩) zs.length c))):=A6 fun g c g2 c2 S wX h1 h2 h3=>Vb hbb hzb h1 h2 h3 _
 have t1:=A6 (hT wb hbb);have HP:=A5 hP;have HS:=A5 hS;have HY:=A5 hY;obtain⟨SS,hSS⟩:∃SS,(if how=7 then ys else xs)=SS:=⟨_,rfl⟩
 rw[hSS];have HF7:Hid (how=7->ys=SS):=A6 fun h=>by rw[<- hSS,if_pos h]
 have HF8:Hid (¬how=7->xs=SS):=A6 fun h=>by rw[<- hSS,if_neg h]
 clear hT hP hS hY hwb hbb hSS;go_enter func23,ntmps23
 go_wp2_with fail
 rw[<- HWB.out];refine t1.out.mono ?_;rintro e w1 ⟨rfl,hb1⟩;have HB1:=A5 hb1;have t2:=A6 (HP.out w1 (HUP.out w1 hb1));clear t1 hb1;go_wp2_with fail
 refine t2.out.mono ?_;rintro e w2 ⟨g,c,v1,v2,v3,rfl,hr2,hb2⟩;obtain⟨w3,hw3⟩:∃w3,w3=w2.alloc (.cells #[.slice (some ⟨g,0,none⟩) zs.length c] 35):=⟨_,rfl⟩
 have hb23:Bl w2 w3:=by rw[hw3];exact AO
 have hz3:w2.heap.size<w3.heap.size:=by rw[hw3];simp
 have HX3:Hid (∀wX,Bl w3 wX->wX.cell? ⟨w2.heap.size,0,none⟩=some (.slice (some ⟨g,0,none⟩) zs.length c)):=A6 fun wX hX=>(hX.cell (p:=⟨w2.heap.size,0,none⟩) hz3).trans (by rw[hw3];simp[go_sem])
 have HB3:Hid (Bl wb w3):=A6 ((Ab HB1.out hb2).trans (hb23.mono (Nat.le_trans HB1.out.size hb2.size)));have HR3:Hid (∀wX,Bl w3 wX->A8 AY wX wb.heap.size (.slice (some ⟨g,0,none⟩) zs.length c) zs):=A6 fun wX hX=>((hr2.below hb23).below hX).rebase HB1.out.size
 have HW3:=A5 hw3;have t3:=A6 (HS.out w3 (HUP.out w3 HB3.out));clear t2 hr2 hb2 hb23 hw3;go_wp2_with fail
 rw[<- HW3.out];refine t3.out.mono ?_;rintro e w4 ⟨g4,c4,rfl,hr4,hb4⟩;have HB34:=A5 hb4;have HB4:=A5 (Ab HB3.out hb4);have HR4:Hid (A8 AA w4 wb.heap.size (.slice (some ⟨g4,0,none⟩) xs.length c4) xs):=A6 (hr4.rebase HB3.out.size);clear t3 hr4 hb4;by_cases h7:how=7
 ·obtain rfl:=HF7.out h7;have L7:(how==7)=true:=by simpa using h7
  have t4:=A6 (HY.out w4 (HUP.out w4 HB4.out));clear h7;go_wp2_with fail
  refine t4.out.mono ?_;rintro e w5 ⟨g5,c5,rfl,hr5,hb5⟩;have HB5:=A5 (Ab HB4.out hb5);have HB35:=A5 (Ab HB34.out hb5);have HR5:Hid (A8 AA w5 wb.heap.size (.slice (some ⟨g5,0,none⟩) ys.length c5) ys):=A6 (hr5.rebase HB4.out.size);have x5:=HX3.out w5 HB35.out;obtain⟨q5,f5⟩:=HQ.out w5 HB5.out;have z5:=QK (.slice (some ⟨g,0,none⟩) zs.length c) q5;clear t4 hr5 hb5;go_wp2_with fail
  exact bodyPost_ret (v:=.tuple #[.agg #[.slice (some ⟨g,0,none⟩) zs.length c],.slice (some ⟨g5,0,none⟩) ys.length c5]) (by simp[results,results23,go_sem,z5]) rfl (HFIN.out g c g5 c5 ys w5 HB5.out (HR3.out w5 HB35.out) HR5.out)
 ·obtain rfl:=HF8.out h7;have L7:(how==7)=false:=by simpa using h7
  have x4:=HX3.out w4 HB34.out;obtain⟨q4,f4⟩:=HQ.out w4 HB4.out;have z4:=QK (.slice (some ⟨g,0,none⟩) zs.length c) q4;clear h7;go_wp2_with fail
  exact bodyPost_ret (v:=.tuple #[.agg #[.slice (some ⟨g,0,none⟩) zs.length c],.slice (some ⟨g4,0,none⟩) xs.length c4]) (by simp[results,results23,go_sem,z4]) rfl (HFIN.out g c g4 c4 xs w4 HB4.out (HR3.out w4 HB34.out) HR4.out)
theorem XE(A:Value)(how:Int)(zs ys:List Int)(xs:List AE)(q z:Nat)(tn:Int)(w:World)(h8:8<=how)(h16:how<16)(hzl:zs.length<=1000)(ht:0<=tn/\tn<=1000)(hT:∀wX,Bl w wX->Calls prog 64 #[A,.int .i64 0,.int .i64 16] wX (AM wX (.tuple #[.int .i64 how,.int .i64 1])))(hD:∀wX,Bl w wX->Calls prog 68 #[A,.int .i64 1] wX fun e w'=>∃g,e=.returned (.tuple #[.agg #[.slice (some ⟨g,0,none⟩) zs.length zs.length],.int .i64 (q:Int)])/\wX.heap.size<=g/\Ck w' g zs/\Bl wX w')(hS:∀wX,Bl w wX->Calls prog 66 #[A,.int .i64 (q:Int),.int .i64 (how%2)] wX fun e w'=>IT wX xs z e w')(hN:∀(g c b:Nat) wX,A8 AA wX b (.slice (some ⟨g,0,none⟩) xs.length c) xs->Calls prog 69 #[.slice (some ⟨g,0,none⟩) xs.length c] wX (AM wX (.int .i64 tn)))(hM:∀(g:Nat) wX,Bl w wX->BQ wX g zs->Calls prog 70 #[A,.int .i64 (z:Int),.agg #[.slice (some ⟨g,0,none⟩) zs.length zs.length]] wX fun e w'=>∃g1 c1,e=.returned (.agg #[.slice (some ⟨g1,0,none⟩) ys.length c1])/\A8 AY w' wX.heap.size (.slice (some ⟨g1,0,none⟩) ys.length c1) ys/\Bl wX w'):Calls prog 23 #[A] w fun e w'=>IP w (if how<13 then Iv zs (16*(tn+how%3)) else if how=15 then ys else zs) xs e w':=by
 obtain⟨i0,hi,hz0,hz1,hz2⟩:=info_parts Fp;obtain⟨wb,hwb⟩:∃wb,wb=w.alloc (.cells #[.slice none 0 0] 35):=⟨_,rfl⟩
 have hbb:Bl w wb:=by rw[hwb];exact AO
 have hzb:w.heap.size<wb.heap.size:=by rw[hwb];simp
 have HQ:Hid (∀wX,Bl wb wX->wX.cell? ⟨w.heap.size,0,none⟩=some (.slice none 0 0)/\wX.frozen? ⟨w.heap.size,0,none⟩=false):=A6 fun wX hX =>
  ⟨(hX.cell (by simpa using hzb)).trans (by rw[hwb];simp[go_sem]),(hX.frozen (by simpa using hzb)).trans (by rw[hwb];simp[go_sem])⟩
 have HUP:Hid (∀wX,Bl wb wX->Bl w wX):=A6 fun wX hX=>hbb.trans (hX.mono (Nat.le_of_lt hzb))
 have HWB:=A5 hwb;have HFIN:Hid (∀(g c g2 c2:Nat) (Z:List Int) wX,Bl wb wX->A8 AY wX wb.heap.size (.slice (some ⟨g,0,none⟩) Z.length c) Z->A8 AA wX wb.heap.size (.slice (some ⟨g2,0,none⟩) xs.length c2) xs->IP w Z xs (.returned (.tuple #[.agg #[.slice (some ⟨g,0,none⟩) Z.length c],.slice (some ⟨g2,0,none⟩) xs.length c2])) (wX.setCell ⟨w.heap.size,0,none⟩ (.slice (some ⟨g,0,none⟩) Z.length c))):=A6 fun g c g2 c2 Z wX h1 h2 h3=>Vb hbb hzb h1 h2 h3 _
 have t1:=A6 (hT wb hbb);have HD:=A5 hD;have HN:=A5 hN;have HM:=A5 hM;have L8:decide (how<8)=false:=by simpa using h8
 obtain⟨r2,hr2⟩:∃r2:Int,how%2=r2:=⟨_,rfl⟩
 have e2:how.tmod 2=r2:=by rw[Int.tmod_eq_emod_of_nonneg (by omega)];exact hr2
 rw[hr2] at hS;obtain⟨r3,hr3⟩:∃r3:Int,how%3=r3:=⟨_,rfl⟩
 have e3:how.tmod 3=r3:=by rw[Int.tmod_eq_emod_of_nonneg (by omega)];exact hr3
 rw[hr3];have b3:0<=r3/\r3<3:=by omega
 have HS:=A5 hS;obtain⟨ZZ,hZZ⟩:∃ZZ,(if how<13 then Iv zs (16*(tn+r3)) else if how=15 then ys else zs)=ZZ:=⟨_,rfl⟩
 rw[hZZ];have HF1:Hid (how<13->Iv zs (16*(tn+r3))=ZZ):=A6 fun h=>by rw[<- hZZ,if_pos h]
 have HF2:Hid (¬how<13->how=15->ys=ZZ):=A6 fun h h2=>by rw[<- hZZ,if_neg h,if_pos h2]
 have HF3:Hid (¬how<13->¬how=15->zs=ZZ):=A6 fun h h2=>by rw[<- hZZ,if_neg h,if_neg h2]
 clear hT hD hS hN hM hwb hbb hr2 hr3 hZZ;go_enter func23,ntmps23
 go_wp2_with fail
 rw[<- HWB.out];refine t1.out.mono ?_;rintro e w1 ⟨rfl,hb1⟩;have HB1:=A5 hb1;have t2:=A6 (HD.out w1 (HUP.out w1 hb1));clear t1 hb1;go_wp2_with fail
 refine t2.out.mono ?_;rintro e w2 ⟨g,rfl,hg2,hr2,hb2⟩;obtain⟨w3,hw3⟩:∃w3,w3=w2.alloc (.cells #[.slice (some ⟨g,0,none⟩) zs.length zs.length] 35):=⟨_,rfl⟩
 have hb23:Bl w2 w3:=by rw[hw3];exact AO
 have hz3:w2.heap.size<w3.heap.size:=by rw[hw3];simp
 have HX3:Hid (∀wX,Bl w3 wX->wX.cell? ⟨w2.heap.size,0,none⟩=some (.slice (some ⟨g,0,none⟩) zs.length zs.length)):=A6 fun wX hX=>(hX.cell (p:=⟨w2.heap.size,0,none⟩) hz3).trans (by rw[hw3];simp[go_sem])
 have HB3:Hid (Bl wb w3):=A6 ((Ab HB1.out hb2).trans (hb23.mono (Nat.le_trans HB1.out.size hb2.size)));have HG:Hid (g<w3.heap.size):=A6 (Nat.lt_trans hr2.lt hz3);have HI3:Hid (∀wX,Bl w3 wX->Ck wX g zs):=A6 fun wX hX=>(hr2.below hb23 hr2.lt).below hX (Nat.lt_trans hr2.lt hz3)
 have HR3:Hid (∀wX,Bl w3 wX->A8 AY wX wb.heap.size (.slice (some ⟨g,0,none⟩) zs.length zs.length) zs):=A6 fun wX hX=>(HI3.out wX hX).erow (Nat.le_trans HB1.out.size hg2) (by omega)
 have HW3:=A5 hw3;have t3:=A6 (HS.out w3 (HUP.out w3 HB3.out));clear t2 hr2 hb2 hb23 hw3 hg2;go_wp2_with fail
 rw[<- HW3.out];refine t3.out.mono ?_;rintro e w4 ⟨g4,c4,rfl,hr4,hb4⟩;have HB34:=A5 hb4;have HB4:=A5 (Ab HB3.out hb4);have HR4:Hid (A8 AA w4 wb.heap.size (.slice (some ⟨g4,0,none⟩) xs.length c4) xs):=A6 (hr4.rebase HB3.out.size);have HNE:Hid (g≠g4):=A6 (by have:=(hr4.own g4 rfl).1;have:=HG.out;omega);have x4:=HX3.out w4 HB34.out;obtain⟨q4,f4⟩:=HQ.out w4 HB4.out;have z4:=QK (.slice (some ⟨g,0,none⟩) zs.length zs.length) q4;clear t3 hr4 hb4;by_cases h13:how<13
 ·have HF:=A6 (HF1.out h13);have L13:decide (how<13)=true:=by simpa using h13
  have W1:=AR (tn+r3);have W2:=AR (16*(tn+r3));have HRZ:Hid (A8 AY w4 wb.heap.size (.slice (some ⟨g,0,none⟩) zs.length zs.length) zs):=A6 (HR3.out w4 HB34.out);clear h13 f4 q4 z4;go_wp2_with fail
  go_loopw [16] (fun vv wr=>∃(k:Nat) (Z:List Int) (gw cw:Nat),vv=.slice (some ⟨gw,0,none⟩) Z.length cw/\Hid (Z=zs++List.replicate k 0/\(k=0\/(Z.length:Int)<=16*(tn+r3)))/\Hid (gw≠g4)/\Hid (A8 AY wr wb.heap.size (.slice (some ⟨gw,0,none⟩) Z.length cw) Z)/\Hid (A8 AA wr wb.heap.size (.slice (some ⟨g4,0,none⟩) xs.length c4) xs)/\Hid (Bl wb wr)) (fun vv _=>50000-a9 vv)
  case atStart=>exact⟨0,zs,g,zs.length,rfl,A6 ⟨by simp,.inl rfl⟩,HNE,HRZ,HR4,HB4⟩
  case round =>
   clear HRZ HNE HR4 HB4 x4;obtain⟨k,Z,gw,cw,rfl,HK,HNE,HRZ,HR4,HB4⟩:=hrel;have hZl:Z.length<=50000:=by
    obtain⟨e,h⟩:=HK.out;rcases h with h|h
    ·rw[e,h];simp;omega
    ·omega
   have t5:=A6 (HN.out g4 c4 _ _ HR4.out);(go_wp2_with fail);refine t5.out.mono ?_;rintro e w5 ⟨rfl,hb5⟩;have HB5:=A5 (Ab HB4.out hb5);have HR5:Hid (A8 AA w5 wb.heap.size (.slice (some ⟨g4,0,none⟩) xs.length c4) xs):=A6 (HR4.out.below hb5);have HZ5:Hid (A8 AY w5 wb.heap.size (.slice (some ⟨gw,0,none⟩) Z.length cw) Z):=A6 (HRZ.out.below hb5);clear t5 hb5 HB4 HR4 HRZ;by_cases hlt:(Z.length:Int)<16*(tn+r3)
   ·have HRD:Hid (A8 AY (w5.alloc (.cells #[.int .u64 0] 75)) wb.heap.size (.slice (some ⟨gw,0,none⟩) Z.length cw) Z):=A6 (HZ5.out.below AO);have HSD:Hid (A8 AA (w5.alloc (.cells #[.int .u64 0] 75)) wb.heap.size (.slice (some ⟨g4,0,none⟩) xs.length c4) xs):=A6 (HR5.out.below AO);have HBD:Hid (Bl wb (w5.alloc (.cells #[.int .u64 0] 75))):=A6 (HB5.out.alloc HB5.out.size _);have s5:=HB5.out.size;have HL5:Hid (g4<w5.heap.size):=A6 (HR5.out.own g4 rfl).2;have HL:Hid (g4<(w5.alloc (.cells #[.int .u64 0] 75)).heap.size):=A6 (HSD.out.own g4 rfl).2;clear HB5 HR5 HZ5;(go_wp2_with (at_builtin;refine wpList_append_lies _ rfl (.tmp 75) (.tmp 76) 33 rfl wb.heap.size 75 i0 _ 1 8 underlying33 hi hz0 hz1 hz2 rfl (by omega) _ _ _ rfl HRD.out ⟨_,0,none⟩ 1 1 [.int .u64 0] rfl rfl ?c1 ?c2 (by omega) ?c3 ?c4 ?c5 _ rfl ?_));(case c1=>exact World.news_of_block (heap_alloc_new _ (.cells #[.int .u64 0] 75)));(case c2=>intro u hu;simp at hu;rcases hu with rfl;rfl);(case c3=>unfold maxLen;omega);(case c4=>omega);(case c5=>first|omega|(simp;omega));intro g7 c7 w7 hown hgrow hat hlt3;obtain⟨hr7,hb7⟩:=Gh (E:=AY) (x:=0) HBD.out HRD.out hown hgrow;have hs7:=A8.kept HSD.out hgrow (fun k hk=>by have:=HNE.out;simp[Value.ownBlock] at hk ⊢;omega);have hn7:g7≠g4:=by
     have:=HNE.out;have:=HL.out;rcases hat with h|h
     ·(have h2:gw=g7:=by injection h);omega
     ·have h3:=HL5.out;rw[h];simp;omega
    have HR7:=A5 hr7;have HB7:=A5 hb7;have HS7:=A5 hs7;have HN7:=A5 hn7;(have hE1:(Z++[0]).length=Z.length+1:=by simp);clear hown hgrow hat hlt3 hr7 hb7 hs7 hn7;(go_wp2_with fail);go_roundw;(case rel=>exact⟨k+1,Z++[0],g7,c7,by rw[hE1],A6 ⟨by rw[HK.out.1,List.replicate_succ',List.append_assoc],.inr (by rw[hE1];omega)⟩,HN7,HR7,HS7,HB7⟩);case measure=>simp[Z3];omega
   ·(have L1:decide ((Z.length:Int)<16*(tn+r3))=false:=by simpa using hlt);obtain⟨q5,f5⟩:=HQ.out w5 HB5.out;have z5:=QK (.slice (some ⟨gw,0,none⟩) Z.length cw) q5;have hE:Z=Iv zs (16*(tn+r3)):=by
     obtain⟨e,h⟩:=HK.out;unfold Iv;(have el:Z.length=zs.length+k:=by rw[e];simp);(have ek:k=(16*(tn+r3)).toNat-zs.length:=by rcases h with h|h<;>omega);rw[<- ek];exact e
    obtain rfl:=hE.trans HF.out;clear hlt hE;(go_wp2_with fail);exact bodyPost_ret (v:=.tuple #[.agg #[.slice (some ⟨gw,0,none⟩) Z.length cw],.slice (some ⟨g4,0,none⟩) xs.length c4]) (by simp[results,results23,go_sem,z5]) rfl (HFIN.out gw cw g4 c4 Z w5 HB5.out HZ5.out HR5.out)
 ·have L13:decide (how<13)=false:=by simpa using h13
  by_cases h15:how=15
  ·obtain rfl:=HF2.out (by omega) h15;(have L15:(how==15)=true:=by simpa using h15);have t5:=A6 (HM.out g w4 (HUP.out w4 HB4.out) (HI3.out w4 HB34.out).c);clear h15 h13;(go_wp2_with fail);refine t5.out.mono ?_;rintro e w5 ⟨g5,c5,rfl,hr5,hb5⟩;have HB5:=A5 (Ab HB4.out hb5);have HR5:Hid (A8 AA w5 wb.heap.size (.slice (some ⟨g4,0,none⟩) xs.length c4) xs):=A6 (HR4.out.below hb5);have HZ5:Hid (A8 AY w5 wb.heap.size (.slice (some ⟨g5,0,none⟩) ys.length c5) ys):=A6 (hr5.rebase HB4.out.size);obtain⟨q5,f5⟩:=HQ.out w5 HB5.out;have z5:=QK (.slice (some ⟨g5,0,none⟩) ys.length c5) q5;clear t5 hr5 hb5 q4 f4 z4;(go_wp2_with fail);exact bodyPost_ret (v:=.tuple #[.agg #[.slice (some ⟨g5,0,none⟩) ys.length c5],.slice (some ⟨g4,0,none⟩) xs.length c4]) (by simp[results,results23,go_sem,z5]) rfl (HFIN.out g5 c5 g4 c4 ys w5 HB5.out HZ5.out HR5.out)
  ·obtain rfl:=HF3.out (by omega) h15;(have L15:(how==15)=false:=by simpa using h15);clear h15 h13;(go_wp2_with fail);exact bodyPost_ret (v:=.tuple #[.agg #[.slice (some ⟨g,0,none⟩) zs.length zs.length],.slice (some ⟨g4,0,none⟩) xs.length c4]) (by simp[results,results23,go_sem,z4]) rfl (HFIN.out g zs.length g4 c4 zs w4 HB4.out (HR3.out w4 HB34.out) HR4.out)
theorem YZ(k o p s:Int)(w:World):(Instr.field 56 (.agg #[.int .i64 k,.int .i64 o,.int .i64 p,.int .i64 s]) 0).run prog w=.ok (.int .i64 k) w:=by rfl
attribute [local go_sem] YZ
theorem WN(a:Option Addr)(n cap:Nat)(w:World)(M A:List Int)(S:List AE)(l:List BP)(cd:Int)(hn:n<=1048576)(hD:∀wX,Bl w wX->Calls prog 23 #[.slice a n cap] wX fun e w'=>IP wX M S e w')(hS:∀(g c b g2 c2:Nat) wX,A8 AY wX b (.slice (some ⟨g,0,none⟩) M.length c) M->A8 AA wX b (.slice (some ⟨g2,0,none⟩) S.length c2) S->Calls prog 24 #[.agg #[.slice (some ⟨g,0,none⟩) M.length c],.slice (some ⟨g2,0,none⟩) S.length c2] wX fun e w'=>DT wX (l,cd) e w')(hP:∀(g c b g2 c2:Nat) wX,A8 AY wX b (.slice (some ⟨g,0,none⟩) M.length c) M->A8 AA wX b (.slice (some ⟨g2,0,none⟩) S.length c2) S->Calls prog 25 #[.agg #[.slice (some ⟨g,0,none⟩) M.length c],.slice (some ⟨g2,0,none⟩) S.length c2] wX fun e w'=>DT wX (l,cd) e w')(hl:cd≠0->l.length=0)(hE:cd=0->∀(g c b bo:Nat) (ao:Option Addr) (co:Nat) (ae:Option Addr) wX,A8 AY wX b (.slice (some ⟨g,0,none⟩) M.length c) M->A8 BW wX bo (.slice ao l.length co) l->Calls prog 14 #[.agg #[.slice (some ⟨g,0,none⟩) M.length c,.slice none 0 0,.slice none 0 0,.slice none 0 0],.slice ao l.length co,.slice ae 0 0] wX fun e w'=>OM wX A l.length e w')(hI:cd=0->∀(g c b:Nat) wX,A8 AY wX b (.slice (some ⟨g,0,none⟩) A.length c) A->Calls prog 26 #[.agg #[.slice (some ⟨g,0,none⟩) A.length c]] wX fun e w'=>∃(a':Option Addr) (n' c':Nat),e=.returned (.tuple #[.slice a' n' c',.bool true])/\Bl wX w')(hW:cd=0->∀(g c b p:Nat) wX,p<4096->A8 AY wX b (.slice (some ⟨g,0,none⟩) A.length c) A->Calls prog 27 #[.agg #[.slice (some ⟨g,0,none⟩) A.length c],.int .i64 (p:Int)] wX (AM wX (Fy (YI S p))))(hA:∀(g c b p:Nat) wX,A8 AA wX b (.slice (some ⟨g,0,none⟩) S.length c) S->Calls prog 20 #[.slice (some ⟨g,0,none⟩) S.length c,.int .i64 (p:Int)] wX (AM wX (Fy (YI S p))))(hV:∀(g c b:Nat) (p:Int) wX,A8 AY wX b (.slice (some ⟨g,0,none⟩) M.length c) M->Calls prog 19 #[.agg #[.slice (some ⟨g,0,none⟩) M.length c],.int .i64 p] wX (AM wX (Fy (BG M p))))(hQ:∀(g c b:Nat) wX,A8 AY wX b (.slice (some ⟨g,0,none⟩) M.length c) M->Calls prog 21 #[.agg #[.slice (some ⟨g,0,none⟩) M.length c]] wX fun e w'=>CI M wX e w')(hF:cd=0->Tj M S (A7 M).length=decide (l.length=0)/\(A7 M).length<=8192/\∀i,i<(A7 M).length->((Aq (A7 M) i).lv=1\/(Aq (A7 M) i).lv=2\/(Aq (A7 M) i).lv=3)/\0<=(Aq (A7 M) i).pg/\(Aq (A7 M) i).pg<=4096):Calls prog 4 #[.slice a n cap] w (AM w (.bool true)):=by
 have L0:¬(1048576:Int)<(n:Int):=by omega
 have HD:=A6 hD;have HS:=A6 hS;have HP:=A6 hP;have HL:=A6 hl;have HE:=A6 hE;have HI:=A6 hI;have HW:=A6 hW;have HA:=A6 hA;have HV:=A6 hV;have HQ:=A6 hQ;have HF:=A6 hF;clear hD hS hP hl hE hI hW hA hV hQ hF;refine KZ 160 func4 rfl (by rfl) (by simp) ?_;intro tm hsz hla;have s0:=hla 0 (by simp);clear hla;simp only[List.getElem_toArray,List.getElem_cons_zero] at s0;go_upto_if 27 with fail
 refine cF ?_;go_wp2_with fail
 refine(HD.out w AH).mono ?_;rintro e w1 ⟨g1,c1,k1,d1,rfl,hm1,hs1,hb1⟩;obtain⟨wA,hwA,hbA,hzA⟩:=Tr w1 #[.slice (some ⟨g1,0,none⟩) M.length c1] 35;have HB1:=A6 (Ab hb1 hbA);have H1:Hid (∀wX,Bl wA wX->wX.cell? ⟨w1.heap.size,0,none⟩=some (.slice (some ⟨g1,0,none⟩) M.length c1)/\A8 AY wX w.heap.size (.slice (some ⟨g1,0,none⟩) M.length c1) M/\A8 AA wX w.heap.size (.slice (some ⟨k1,0,none⟩) S.length d1) S):=A6 fun wX hX=>⟨(hX.cell (p:=⟨w1.heap.size,0,none⟩) hzA).trans (by rw[hwA];simp[go_sem]),(hm1.below hbA).below hX,(hs1.below hbA).below hX⟩
 have HW1:=A6 hwA;clear hm1 hs1 hb1 hbA hwA;(try dsimp only);go_upto_region 4 with fail
 rw[<- HW1.out];go_wp2_with fail
 refine(HD.out wA HB1.out).mono ?_;rintro e w2 ⟨g2,c2,k2,d2,rfl,hm2,hs2,hb2⟩;obtain⟨wB,hwB,hbB,hzB⟩:=Tr w2 #[.slice (some ⟨g2,0,none⟩) M.length c2] 35;have HBAB:=A6 (Ab hb2 hbB);have H2:Hid (∀wX,Bl wB wX->wX.cell? ⟨w2.heap.size,0,none⟩=some (.slice (some ⟨g2,0,none⟩) M.length c2)/\A8 AY wX wA.heap.size (.slice (some ⟨g2,0,none⟩) M.length c2) M/\A8 AA wX wA.heap.size (.slice (some ⟨k2,0,none⟩) S.length d2) S):=A6 fun wX hX=>⟨(hX.cell (p:=⟨w2.heap.size,0,none⟩) hzB).trans (by rw[hwB];simp[go_sem]),(hm2.below hbB).below hX,(hs2.below hbB).below hX⟩
 have HW2:=A6 hwB;have HBB:=A6 (Ab HB1.out HBAB.out);clear hm2 hs2 hb2 hbB hwB;(try dsimp only);go_upto_region 5 with fail
 rw[<- HW2.out];refine Hm 160 [(0,.slice a n cap),(3,.pointer (some ⟨w1.heap.size,0,none⟩)),(4,.slice (some ⟨k1,0,none⟩) S.length d1),(5,.pointer (some ⟨w2.heap.size,0,none⟩)),(6,.slice (some ⟨k2,0,none⟩) S.length d2)] (by simp[hsz]) (by simp only[Fs];and_intros<;>simp[hsz,s0]) ?_;clear s0 hsz;clear tm;intro tm hsz hs;simp only[Fs] at hs;obtain⟨s0,s3,s4,s5,s6,-⟩:=hs;obtain⟨x5,y5,z5⟩:=H2.out wB AH;have t3:=HS.out g2 c2 _ k2 d2 wB y5 z5;clear y5 z5;go_wp2_with fail
 refine t3.mono ?_;rintro e w3 ⟨a3,c3,rfl,-,hb3⟩;obtain⟨x3,y3,z3⟩:=H1.out w3 (Ab HBAB.out hb3);have t4:=HP.out g1 c1 _ k1 d1 w3 y3 z3;have HB3:=A6 hb3;clear y3 z3 t3 hb3 x5;(try dsimp only);go_wp2_with fail
 refine t4.mono ?_;rintro e w4 ⟨ao,co,rfl,ho,hb4⟩;have HB4:=A6 (Ab HB3.out hb4);have HO:Hid (∀wX,Bl w4 wX->A8 BW wX w3.heap.size (.slice ao l.length co) l):=A6 fun wX hX=>ho.below hX
 clear t4 ho hb4 x3;(try dsimp only);go_upto_if 52 with fail
 refine cF ?_;by_cases hc:cd=0
 ·subst hc;have HEa:=A6 (HE.out rfl);have HIa:=A6 (HI.out rfl);have HWa:=A6 (HW.out rfl);obtain⟨hFu,hFl,hFp⟩:=HF.out rfl;have HFU:=A6 hFu;have HFP:=A6 hFp;clear hFu hFp HF HS HP HL HE HI HW;go_upto_if 54 with fail
  refine cF ?_;go_wp2_with fail
  refine(HD.out w4 (Ab HBB.out HB4.out)).mono ?_;rintro e w5 ⟨g5,c5,k5,d5,rfl,hm5,-,hb5⟩;obtain⟨wC,hwC,hbC,hzC⟩:=Tr w5 #[.slice (some ⟨g5,0,none⟩) M.length c5] 35;have HB5:=A6 (Ab hb5 hbC);have x5:wC.cell? ⟨w5.heap.size,0,none⟩=some (.slice (some ⟨g5,0,none⟩) M.length c5):=by rw[hwC];simp[go_sem]
  have HR5:=A6 (hm5.below hbC);have HW5:=A6 hwC;clear hm5 hb5 hbC hwC hzC;(try dsimp only);go_upto_region 12 with fail
  rw[<- HW5.out];go_wp2_with fail
  refine(HEa.out g5 c5 _ _ ao co _ _ (HR5.out.below AO) (HO.out _ (Ab HB5.out AO))).mono ?_;rintro e w6 ⟨gF,cZ,aF,kF,dF,rfl,hrF,hb6⟩;obtain⟨wO,hwO,hbO,hzO⟩:=Tr w6 #[.int .i64 0,.int .i64 (l.length:Int),.slice (some ⟨gF,0,none⟩) A.length cZ,.slice aF kF dF,.slice none 0 0,.slice none 0 0,.slice none 0 0] 49;have o0:wO.cell? ⟨w6.heap.size,0,none⟩=some (.int .i64 0):=by rw[hwO];simp[go_sem]
  have o1:wO.cell? ⟨w6.heap.size,1,none⟩=some (.int .i64 (l.length:Int)):=by rw[hwO];simp[go_sem]
  have H6:Hid (∀wX,Bl wO wX->wX.cell? ⟨w6.heap.size,2,none⟩=some (.slice (some ⟨gF,0,none⟩) A.length cZ)/\A8 AY wX (wC.heap.size+1) (.slice (some ⟨gF,0,none⟩) A.length cZ) A):=A6 fun wX hX=>⟨(hX.cell (p:=⟨w6.heap.size,2,none⟩) hzO).trans (by rw[hwO];simp[go_sem]),by
   have:=(hrF.below hbO).below hX
   simpa using this⟩
  have HBO:=A6 (Ab HBB.out (Ab HB4.out (Ab HB5.out (Ab AO (Ab hb6 hbO)))));have HBBO:=A6 (Ab HB4.out (Ab HB5.out (Ab AO (Ab hb6 hbO))));have o2:=(H6.out wO AH).1;have t7:=HIa.out gF cZ _ wO (H6.out wO AH).2;have HW6:=A6 hwO;clear hrF hb6 hbO hwO x5 HR5 HW5 HEa HIa HO HD;go_upto_region 13 with fail
  rw[<- HW6.out];go_upto_if 77 with fail
  refine cF ?_;go_wp2_with fail
  refine t7.mono ?_;rintro e w7 ⟨a7,n7,c7,rfl,hb7⟩;have HB7:=A6 (Ab HBBO.out hb7);have HO7:=A6 hb7;clear t7 hb7 o0 o1 o2;(try dsimp only);go_upto_if 86 with fail
  refine cF ?_;go_wp2_with fail
  refine Fw 160 (fun j tm wr=>∃p:Nat,j=4096-p/\p<=4096/\Fs tm [(5,.pointer (some ⟨w2.heap.size,0,none⟩)),(6,.slice (some ⟨k2,0,none⟩) S.length d2),(9,.slice ao l.length co),(13,.pointer (some ⟨w6.heap.size,0,none⟩)),(16,.bool (VI M S p)),(17,.int .i64 (p:Int))]/\Hid (Bl w7 wr)) 4096 (by simp[hsz]) ⟨0,by omega,by omega,by simp only[Fs];and_intros<;>simp[hsz,s5,s6,VI],A6 AH⟩ ?_;clear s0 s3 s4 s5 s6 hsz;clear tm;intro j tm wr J K hsz hI hJ hK;obtain⟨p,hj,hp,hs,HBR⟩:=hI;simp only[Fs] at hs;obtain⟨s5,s6,s9,s13,s16,s17,-⟩:=hs;subst hj;by_cases hlt:p<4096
  ·(have P1:(p:Int)<4096:=by omega);have HNX:Hid (VI M S (p+1)=(VI M S p&&J5 (BG M p) (YI S p))):=A6 rfl;have HB7R:=A6 (Ab HB7.out HBR.out);have t1:=HA.out k2 d2 _ p wr (H2.out wr HB7R.out).2.2;have t2:=A6 (fun wX hX=>HWa.out gF cZ _ p wX hlt (H6.out wX hX).2);have t3:=A6 (fun wX hX=>HV.out g2 c2 _ p wX (H2.out wX hX).2.1);generalize BG M p=X1 at *;generalize YI S p=Y1 at *;obtain⟨XA,XB,XC,XD⟩:=X1;obtain⟨YA,YB,YC,YD⟩:=Y1;unfold Fy at t1 t2 t3;dsimp only at t1 t2 t3;have t8:=A6 (fun wX=>Jz XA XB XC XD YA YB YC YD wX);have t9:=A6 (fun wX=>Jz YA YB YC YD YA YB YC YD wX);rw[Hf.2 rfl] at t9;generalize J5 ⟨XA,XB,XC,XD⟩ ⟨YA,YB,YC,YD⟩=SM at *;generalize VI M S p=S1 at *;(go_upto_if 88 with fail);refine cT ?_;(go_wp2_with fail);refine t1.mono ?_;rintro e u1 ⟨rfl,hb⟩;obtain⟨u2,hu2,hbu,hzu⟩:=Tr u1 #[.int .i64 YA,.int .i64 YB,.int .i64 YC,.int .i64 YD] 56;have HU:=A6 (Ab HBR.out (Ab hb hbu));have HC:Hid (∀wX,Bl u2 wX->(wX.cell? ⟨w6.heap.size,2,none⟩=some (.slice (some ⟨gF,0,none⟩) A.length cZ)/\wX.cell? ⟨w2.heap.size,0,none⟩=some (.slice (some ⟨g2,0,none⟩) M.length c2))/\wX.cell? ⟨u1.heap.size,0,none⟩=some (.int .i64 YA)/\wX.cell? ⟨u1.heap.size,1,none⟩=some (.int .i64 YB)/\wX.cell? ⟨u1.heap.size,2,none⟩=some (.int .i64 YC)/\wX.cell? ⟨u1.heap.size,3,none⟩=some (.int .i64 YD)):=A6 fun wX hX=>by
    have h1:=Ab HU.out hX;refine⟨⟨(H6.out wX (Ab HO7.out h1)).1,(H2.out wX (Ab HB7.out h1)).1⟩,(hX.cell (p:=⟨u1.heap.size,0,none⟩) hzu).trans ?_,(hX.cell (p:=⟨u1.heap.size,1,none⟩) hzu).trans ?_,(hX.cell (p:=⟨u1.heap.size,2,none⟩) hzu).trans ?_,(hX.cell (p:=⟨u1.heap.size,3,none⟩) hzu).trans ?_⟩<;>(rw[hu2];simp[go_sem])
   have HWU:=A6 hu2;clear t1 hb hbu hu2;(go_upto_region 23 with fail);rw[<- HWU.out];refine wp_region_held_drew (S:=fun wX=>(wX.cell? ⟨w6.heap.size,2,none⟩=some (.slice (some ⟨gF,0,none⟩) A.length cZ)/\wX.cell? ⟨w2.heap.size,0,none⟩=some (.slice (some ⟨g2,0,none⟩) M.length c2))/\wX.cell? ⟨u1.heap.size,0,none⟩=some (.int .i64 YA)/\wX.cell? ⟨u1.heap.size,1,none⟩=some (.int .i64 YB)/\wX.cell? ⟨u1.heap.size,2,none⟩=some (.int .i64 YC)/\wX.cell? ⟨u1.heap.size,3,none⟩=some (.int .i64 YD)) (by kernel_rfl) (HC.out _ AH.drew) (fun hHeld=>?_);(obtain⟨u3,hu3⟩:∃x,x=u2.drew:=⟨_,rfl⟩);have HB23:=A6 (show Bl u2 u3 by rw[hu3];exact AH.drew);rw[<- hu3] at hHeld ⊢;clear hu3;refine tk 0 ?_;refine tk 1 ?_;refine tk 2 ?_;refine tk 3 ?_;refine tk 5 ?_;(refine Aj 4 fun K hK=>?_);go_simp;refine(t2.out u3 (Ab HO7.out (Ab HU.out HB23.out))).mono ?_;rintro e u4 ⟨rfl,hb⟩;have HB24:=A6 (Ab HB23.out hb);clear hb;(go_wp2_with fail);refine hK.out _ _ (HC.out u4 HB24.out) (fun hHeld2=>?_);clear hK K;(refine Aj 6 fun K hK=>?_);go_simp;refine(t9.out u4).mono ?_;rintro e u5 ⟨rfl,hb⟩;have HB25:=A6 (Ab HB24.out hb);clear hb;(go_wp2_with fail);refine hK.out _ _ (HC.out u5 HB25.out) (fun hHeld3=>?_);clear hK K;refine tk 7 ?_;refine AZ ?_;clear hHeld hHeld2 hHeld3;(go_upto_if 101 with fail);refine cF ?_;(go_upto_region 25 with fail);refine wp_region_held_drew (S:=fun wX=>(wX.cell? ⟨w6.heap.size,2,none⟩=some (.slice (some ⟨gF,0,none⟩) A.length cZ)/\wX.cell? ⟨w2.heap.size,0,none⟩=some (.slice (some ⟨g2,0,none⟩) M.length c2))/\wX.cell? ⟨u1.heap.size,0,none⟩=some (.int .i64 YA)/\wX.cell? ⟨u1.heap.size,1,none⟩=some (.int .i64 YB)/\wX.cell? ⟨u1.heap.size,2,none⟩=some (.int .i64 YC)/\wX.cell? ⟨u1.heap.size,3,none⟩=some (.int .i64 YD)) (by kernel_rfl) (HC.out _ HB25.out.drew) (fun hHeld=>?_);(obtain⟨u6,hu6⟩:∃x,x=u5.drew:=⟨_,rfl⟩);have HB26:=A6 (show Bl u2 u6 by rw[hu6];exact HB25.out.drew);rw[<- hu6] at hHeld ⊢;clear hu6;refine tk 0 ?_;refine tk 1 ?_;refine tk 3 ?_;(refine Aj 2 fun K hK=>?_);go_simp;refine(t3.out u6 (Ab HB7.out (Ab HU.out HB26.out))).mono ?_;rintro e u7 ⟨rfl,hb⟩;have HB27:=A6 (Ab HB26.out hb);clear hb;(go_wp2_with fail);refine hK.out _ _ (HC.out u7 HB27.out) (fun hHeld2=>?_);clear hK K;(refine Aj 4 fun K hK=>?_);go_simp;refine(t8.out u7).mono ?_;rintro e u8 ⟨rfl,hb⟩;have HB28:=A6 (Ab HU.out (Ab HB27.out hb));have HB28':=A6 (Ab HB27.out hb);clear hb;(go_wp2_with fail);refine hK.out _ _ (HC.out u8 HB28'.out) (fun hHeld3=>?_);clear hK K;refine tk 5 ?_;refine AZ ?_;clear hHeld hHeld2 hHeld3;cases SM
   ·(go_upto_if 107 with fail);refine cT ?_;(go_wp2_with fail);refine Met.intro (hJ (4096-(p+1)) _ _ (by simp[hsz]) ⟨p+1,rfl,by omega,by rw[show ((p+1:Nat):Int)=(p:Int)+1 by omega];simp only[Fs];and_intros<;>simp[hsz,s5,s6,s9,s13,HNX.out],HB28⟩ (by omega))
   ·(go_upto_if 107 with fail);refine cF ?_;(go_wp2_with fail);refine Met.intro (hJ (4096-(p+1)) _ _ (by simp[hsz]) ⟨p+1,rfl,by omega,by rw[show ((p+1:Nat):Int)=(p:Int)+1 by omega];simp only[Fs];and_intros<;>simp[hsz,s5,s6,s9,s13,s16,HNX.out],HB28⟩ (by omega))
  ·(obtain rfl:p=4096:=by omega);obtain⟨x5,y5,-⟩:=H2.out wr (Ab HB7.out HBR.out);have t1:=HQ.out g2 c2 _ wr y5;clear y5 hJ hK hlt hp;(go_upto_if 88 with fail);refine cF ?_;(go_wp2_with fail);refine t1.mono ?_;rintro e w8 ⟨a8,c8,rfl,hp8,hb8⟩;have HB8:=A6 (Ab HB7.out (Ab HBR.out hb8));have HB78:=A6 (Ab HBR.out hb8);obtain⟨g8,hg8,hq8⟩:=Dg hp8;have HQ8:=A6 hq8;clear t1 hp8 hb8 x5 hq8;(try dsimp only);(go_wp2_with fail);refine Fw 160 (fun j tm wr=>∃i:Nat,j=(A7 M).length-i/\i<=(A7 M).length/\Fs tm [(5,.pointer (some ⟨w2.heap.size,0,none⟩)),(9,.slice ao l.length co),(16,.bool (Tj M S i)),(19,.slice a8 (A7 M).length c8),(21,.int .i64 (i:Int))]/\Hid (Bl w8 wr)) (A7 M).length (by simp[hsz]) ⟨0,by omega,by omega,by simp only[Fs];and_intros<;>simp[hsz,s5,s9,s16,Tj],A6 AH⟩ ?_;clear s5 s6 s9 s13 s16 s17 hsz;clear tm;intro j tm wq J K hsz hI hJ hK;obtain⟨i,hj,hi,hs,HBQ⟩:=hI;simp only[Fs] at hs;obtain⟨s5,s9,s16,s19,s21,-⟩:=hs;subst hj;by_cases hlt:i<(A7 M).length
   ·have HNX:Hid (Tj M S (i+1)=(Tj M S i&&UC M (Aq (A7 M) i) (Ga (Aq (A7 M) i).lv.toNat))):=A6 rfl;obtain⟨hL,hG0,hG1⟩:=HFP.out i hlt;obtain⟨rfl,hg8'⟩:=hg8 (by omega);have hQ0:=HQ8.out i;(obtain⟨q,hq⟩:∃q,Aq (A7 M) i=q:=⟨_,rfl⟩);rw[hq] at hL hG0 hG1 HNX hQ0;clear hq;obtain⟨FR,LV,PG⟩:=q;have HQI:Hid (∀wX,Bl w8 wX->(wX.cell? ⟨w2.heap.size,0,none⟩=some (.slice (some ⟨g2,0,none⟩) M.length c2)/\wX.cell? ⟨g8,i*3+1,none⟩=some (.int .i64 LV))/\wX.cell? ⟨g8,i*3+2,none⟩=some (.int .i64 PG)):=A6 fun wX hX=>by
     obtain⟨_,h1,h2⟩:=hQ0 FR LV PG hlt rfl wX hX;exact⟨⟨(H2.out wX (Ab HB8.out hX)).1,h1⟩,h2⟩
    have HUS:Hid (UC M ⟨FR,LV,PG⟩ 0=decide (LV=1)/\∀k,UC M ⟨FR,LV,PG⟩ (k+1)=(UC M ⟨FR,LV,PG⟩ k||decide ((BG M (PG+(k:Nat))).kind=1))):=A6 ⟨rfl,fun _=>rfl⟩;dsimp only at hL hG0 hG1 HNX;(have hN2:(Ga LV.toNat:Int)=if LV=2 then 256 else if LV=3 then 16 else 4096:=by rcases hL with rfl|rfl|rfl<;>rfl);generalize UC M ⟨FR,LV,PG⟩=U at *;generalize Ga LV.toNat=NN at *;generalize (A7 M).length=N at *;generalize Tj M S i=S1 at *;(have I1:(i:Int)<(N:Int):=by omega);(have I0:(0:Int)<=(i:Int):=by omega);obtain⟨⟨-,q1⟩,-⟩:=HQI.out wq HBQ.out;clear hlt hg8 hQ0;rcases hL with rfl|rfl|rfl;all_goals
     simp only[reduceIte,Int.reduceEq] at hN2
     go_upto_if 116 with fail
     refine cT ?_
     go_upto_if 124 with fail
    refine cF ?_;(rotate_left);refine cT ?_;(rotate_left);refine cF ?_;(rotate_left);(all_goals go_upto_if 130 with fail);refine cF ?_;(rotate_left);refine cF ?_;(rotate_left);refine cT ?_;all_goals
     go_wp2_with fail
     refine Fw 160 (fun j tm wr=>∃k:Nat,j=NN-k/\k<=NN/\Fs tm [(5,.pointer (some ⟨w2.heap.size,0,none⟩)),(9,.slice ao l.length co),(16,.bool S1),(19,.slice (some ⟨g8,0,none⟩) N c8),(21,.int .i64 (i:Int)),(22,.int .i64 (NN:Int)),(23,.bool (U k)),(24,.int .i64 (k:Int))]/\Hid (Bl w8 wr)) NN (by simp[hsz]) ⟨0,by omega,by omega,by simp only[Fs];and_intros<;>simp[hsz,s5,s9,s16,s19,s21,hN2,HUS.out.1],HBQ⟩ ?_
     clear s5 s9 s16 s19 s21 hsz q1
     clear tm
     intro j tm ws J2 K2 hsz hI hJ2 hK2
     obtain⟨k,hj,hk,hs,HBS⟩:=hI
     simp only[Fs] at hs
     obtain⟨s5,s9,s16,s19,s21,s22,s23,s24,-⟩:=hs
     subst hj
     by_cases hkl:k<NN
     ·have K1:(k:Int)<(NN:Int):=by omega
      have K2:(k:Int)<4096:=by omega
      have W1:=AR (PG+(k:Int))
      have t1:=A6 (fun wX hX=>HV.out g2 c2 _ (PG+(k:Int)) wX (H2.out wX hX).2.1)
      have HU:=A6 (HUS.out.2 k)
      generalize BG M (PG+(k:Int))=X1 at *
      obtain⟨XA,XB,XC,XD⟩:=X1
      unfold Fy at t1
      dsimp only at t1 HU
      clear hN2
      go_upto_if 139 with fail
      refine cT ?_
      go_upto_region 40 with fail
      refine wp_region_held_drew (S:=fun wX=>(wX.cell? ⟨w2.heap.size,0,none⟩=some (.slice (some ⟨g2,0,none⟩) M.length c2)/\wX.cell? ⟨g8,i*3+1,none⟩=some (.int .i64 _))/\wX.cell? ⟨g8,i*3+2,none⟩=some (.int .i64 PG)) (by kernel_rfl) (HQI.out _ HBS.out.drew) (fun hHeld=>?_)
      obtain⟨u3,hu3⟩:∃x,x=ws.drew:=⟨_,rfl⟩
      have HB3:=A6 (show Bl w8 u3 by rw[hu3];exact HBS.out.drew)
      rw[<- hu3] at hHeld ⊢
      clear hu3
      refine tk 0 ?_
      refine tk 1 ?_
      refine tk 2 ?_
      refine tk 3 ?_
      refine tk 4 ?_
      refine tk 5 ?_
      refine tk 6 ?_
      refine tk 7 ?_
      refine Aj 8 fun K hK=>?_
      go_simp
      refine(t1.out u3 (Ab HB8.out HB3.out)).mono ?_
      rintro e u4 ⟨rfl,hb⟩
      have HB4:=A6 (Ab HB3.out hb)
      clear hb
      go_wp2_with fail
      refine hK.out _ _ (HQI.out u4 HB4.out) (fun hHeld2=>?_)
      clear hK K
      refine tk 9 ?_
      refine tk 10 ?_
      refine AZ ?_
      clear hHeld hHeld2
      by_cases hX:XA=1
      ·have hXb:(XA==1)=true:=by simpa using hX
       rw[decide_eq_true hX,Bool.or_true] at HU
       clear hX
       go_upto_if 152 with fail
       refine cT ?_
       go_wp2_with fail
       refine Met.intro (hJ2 (NN-(k+1)) _ _ (by simp[hsz]) ⟨k+1,rfl,by omega,by rw[show ((k+1:Nat):Int)=(k:Int)+1 by omega];simp only[Fs];and_intros<;>simp[hsz,s5,s9,s16,s19,s21,s22,HU.out],HB4⟩ (by omega))
      ·have hXb:(XA==1)=false:=by simpa using hX
       rw[decide_eq_false hX,Bool.or_false] at HU
       clear hX
       go_upto_if 152 with fail
       refine cF ?_
       go_wp2_with fail
       refine Met.intro (hJ2 (NN-(k+1)) _ _ (by simp[hsz]) ⟨k+1,rfl,by omega,by rw[show ((k+1:Nat):Int)=(k:Int)+1 by omega];simp only[Fs];and_intros<;>simp[hsz,s5,s9,s16,s19,s21,s22,s23,HU.out],HB4⟩ (by omega))
     ·obtain rfl:k=NN:=by omega
      clear hkl hk hJ2 hK2
      go_upto_if 139 with fail
      refine cF ?_
      generalize U k=UB at *
      cases UB
      ·go_upto_if 154 with fail
       refine cT ?_
       go_wp2_with fail
       refine Met.intro (hJ (N-(i+1)) _ _ (by simp[hsz]) ⟨i+1,rfl,by omega,by rw[show ((i+1:Nat):Int)=(i:Int)+1 by omega];simp only[Fs];and_intros<;>simp[hsz,s5,s9,s19,HNX.out],HBS⟩ (by omega))
      ·go_upto_if 154 with fail
       refine cF ?_
       go_wp2_with fail
       refine Met.intro (hJ (N-(i+1)) _ _ (by simp[hsz]) ⟨i+1,rfl,by omega,by rw[show ((i+1:Nat):Int)=(i:Int)+1 by omega];simp only[Fs];and_intros<;>simp[hsz,s5,s9,s16,s19,HNX.out],HBS⟩ (by omega))
   ·(obtain rfl:i=(A7 M).length:=by omega);rw[HFU.out] at s16;have hb:=Ab HBO.out (Ab HO7.out (Ab HB78.out HBQ.out));clear hlt hi hJ hK;by_cases hl0:l.length=0
    ·(have h1:((l.length:Int)==0)=true:=by rw[hl0];rfl);rw[decide_eq_true hl0] at s16;clear hl0;(go_upto_if 116 with fail);refine cF ?_;(go_wp2_with fail);exact bodyPost_ret (v:=.bool true) (by simp[results,results4,go_sem,hsz]) rfl ⟨rfl,hb⟩
    ·have h1:((l.length:Int)==0)=false:=beq_eq_false_iff_ne.2 (by omega);rw[decide_eq_false hl0] at s16;clear hl0;(go_upto_if 116 with fail);refine cF ?_;(go_wp2_with fail);exact bodyPost_ret (v:=.bool true) (by simp[results,results4,go_sem,hsz]) rfl ⟨rfl,hb⟩
 ·have hcb:(cd != 0)=true:=by simpa using hc
  have l0:=HL.out hc;have h1:((l.length:Int)==0)=true:=by rw[l0];rfl
  have hb:=Ab HBB.out HB4.out;clear hc l0;go_upto_if 54 with fail
  refine cT ?_;go_wp2_with fail
  exact bodyPost_ret (v:=.bool true) (by simp[results,results4,go_sem,hsz]) rfl ⟨rfl,hb⟩
end Go.Proofs.YtnmhkgmmpkjjeaaGreat
