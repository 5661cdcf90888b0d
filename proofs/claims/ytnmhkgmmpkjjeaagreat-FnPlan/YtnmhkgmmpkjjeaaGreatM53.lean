import Derived.Test.YtnmhkgmmpkjjeaaGreatM14
namespace Go.Proofs.YtnmhkgmmpkjjeaaGreat
open ChangeShapes WideShapes ChangeAt RowKit Proofs.Tryz
set_option linter.all false
set_option maxRecDepth 100000
set_option maxHeartbeats 4000000
attribute [local go_sem ↓] wp_at_zero wp_at_succ
theorem Pu(w:World)(x:Int)(b:Nat)(hb:b<=w.heap.size):A8 Ae (w.alloc (.cells #[.int .i64 x] 3)) b (.slice (some ⟨w.heap.size,0,none⟩) 1 1) [x] :=
 ⟨rfl,.inr ⟨w.heap.size,1,#[.int .i64 x],rfl,hb,heap_alloc_new w _,Nat.le_refl _,by unfold maxLen;omega,rfl,rfl⟩⟩
theorem Tt(cs:List Int)(s:DS)(k:Nat):LR cs s (k+1)=ZI cs (k+1) (LR cs s k):=rfl
theorem U3(w:World)(n:Nat):Ck (w.alloc (.cells (madeCells #[.int .u64 0] n) 75)) w.heap.size (List.replicate n 0):=by
 unfold Ck;rw[List.length_replicate];refine(World.rowIs_made w (.int .u64 0) n 75).congr ?_;intro i hi;rw[Gz]
theorem YH{cs:List Int}{N p0 k:Nat}{S:DS}(h:Tm N p0 k S)(hc:Ia cs)(hp:p0+2*k<=900000):Bh cs S.p S.lv.length=(dA cs S:Int)/\dA cs S<S.lv.length:=by
 have hA:=Cf cs S.p S.lv.length (by have:=h.pos;omega) hc (by have:=h.pl;omega);unfold dA;omega
theorem YV{cs:List Int}{N p0 k:Nat}{S:DS}(h:Tm N p0 k S)(hc:Ia cs)(hp:p0+2*k<=900000):S.fr.getD (dA cs S) 0*16+Bh cs (S.p+1) 16=(Xu cs S:Int)/\Xu cs S<16*k+16:=by
 have hB:=Cf cs (S.p+1) 16 (by omega) hc (by have:=h.pl;omega);have hF:=h.frm _ (YH h hc hp).2;unfold Xu;omega
theorem Na(a:Option Addr)(cap:Nat)(cs:List Int)(p:Nat)(w:World)(hc:Ia cs)(hp:p<=100000)(hs:On w a cs):Calls prog 68 #[.slice a cs.length cap,.int .i64 (p:Int)] w fun e w'=>∃g,e=.returned (.tuple #[.agg #[.slice (some ⟨g,0,none⟩) (CF cs p).1.length (CF cs p).1.length],.int .i64 ((CF cs p).2:Int)])/\w.heap.size<=g/\Ck w' g (CF cs p).1/\Bl w w':=by
 have hlen:=hc.1;obtain⟨i0,hi,hz0,hz1,hz2⟩:=info_parts Oa;obtain⟨wb,hwb⟩:∃wb,wb=w.alloc (.cells #[.slice none 0 0] 35):=⟨_,rfl⟩
 have hbb:Bl w wb:=by rw[hwb];exact AO
 have hzb:wb.heap.size=w.heap.size+1:=by rw[hwb];simp
 have qb:wb.cell? ⟨w.heap.size,0,none⟩=some (.slice none 0 0):=by rw[hwb];simp[go_sem]
 have fb:wb.frozen? ⟨w.heap.size,0,none⟩=false:=by rw[hwb];simp[go_sem]
 have HTK:Hid (∀(q:Nat) (n:Int) (wX:World),q<=1000000->n<=1000000->Bl wb wX->Calls prog 64 #[.slice a cs.length cap,.int .i64 (q:Int),.int .i64 n] wX (AM wX (.tuple #[.int .i64 (Bh cs q n),.int .i64 ((q:Int)+1)]))) :=
  fun q n wX h1 h2 hX=>Ed a cap cs q n wX hc h1 h2 (hs.below (hbb.trans (hX.mono (by omega))))
 have hsz:=PH a cap cs 6 3 24 wb hlen (by omega) (by omega) (by omega);have hdn:=Rf cs;have hdx:=Xs cs p hc hp;have h1ok:=Xt cs p hc hp;have hdok:=Pk cs p hc hp;have HALL:Hid (∀k,k<=24->Tm (16*(dN cs+dX cs p)) (p+1) k (LR cs (d0 cs p) k)):=fun k hk=>(Y2 cs p).all hc k (by omega)
 have esz:(if (24:Int)<3+(cs.length:Int)/6 then 24 else 3+(cs.length:Int)/6)=(dN cs:Int):=by
  unfold dN;split<;>split<;>omega
 rw[esz,hwb] at hsz;have HWB:=A5 hwb;have HBB:=A5 hbb;have HC:=A5 hc;have HX:=A5 hdx.1;have HD1:Hid (d1 cs p=LR cs (d0 cs p) (dN cs-1)):=rfl;have HDT:Hid (CF cs p=Tk cs (d1 cs p).lv (d1 cs p).fr ((d1 cs p).zs,(d1 cs p).p) (d1 cs p).fr.length):=rfl;have HD0:Hid (d0 cs p=⟨List.replicate (16*(dN cs+dX cs p)) 0,[1],[0],p+1⟩):=rfl;generalize CF cs p=RT at *;generalize d1 cs p=S1 at *;generalize d0 cs p=S0 at *;generalize dX cs p=x at *;generalize dN cs=n at *;have eN:(16:Int)*((n:Int)+(x:Int))=((16*(n+x):Nat):Int):=by omega
 have hNb:16*(n+x)<=416:=by omega
 have hN16:16*n<=16*(n+x):=by omega
 generalize 16*(n+x)=N at *;have hmk:=run_make_row' (P:=prog) 33 75 (.int .u64 0) 8 underlying33 Fp rfl .i64 .i64 N (by omega) (by omega);have hzb2:w.heap.size<wb.heap.size:=by omega
 clear hc hs hwb hbb hdok h1ok hdx esz hzb;go_enter func68,ntmps68
 go_wp2_with fail
 refine hsz.mono ?_;rintro e w1 ⟨rfl,hb1'⟩;have hb1:Bl wb w1:=by rw[HWB.out];exact hb1'
 have s1:=hb1.size;have ht:=HTK.out p 3 w1 (by omega) (by omega) hb1;rw[HX.out] at ht;have HB1:=A5 hb1;clear hsz hb1 hb1';go_wp2_with fail
 refine ht.mono ?_;rintro e w2 ⟨rfl,hb2'⟩;have hb2:Bl wb w2:=HB1.out.trans (hb2'.mono s1);have s2:=hb2.size;have HT0:Hid (TS wb (((w2.alloc (.cells (madeCells #[.int .u64 0] N) 75)).alloc (.cells #[.int .i64 1] 3)).alloc (.cells #[.int .i64 0] 3)) w2.heap.size (w2.heap.size+1) 1 (w2.heap.size+2) 1 (List.replicate N 0) [1] [0]):=by
  obtain⟨wm,hwm⟩:∃wm,wm=w2.alloc (.cells (madeCells #[.int .u64 0] N) 75):=⟨_,rfl⟩
  have z1:wm.heap.size=w2.heap.size+1:=by rw[hwm];simp
  have r1:Ck wm w2.heap.size (List.replicate N 0):=by rw[hwm];exact U3 w2 N
  have bm:Bl wb wm:=by rw[hwm];exact hb2.alloc s2 _
  rw[<- hwm];have e1:=Pu wm 1 wb.heap.size (by omega);have e2:=Pu (wm.alloc (.cells #[.int .i64 1] 3)) 0 wb.heap.size (by simp;omega);rw[z1] at e1;rw[World.size_alloc,z1] at e2;refine⟨(bm.alloc (by omega) _).alloc (by simp;omega) _,World.rowIs.alloc (World.rowIs.alloc r1 _) _,s2,e1.below AO,e2,by omega,by omega,by omega⟩
 clear ht hb2 hb2' HB1;go_wp2_with fail
 clear hmk;obtain⟨G,hG⟩:∃G,G=w2.heap.size:=⟨_,rfl⟩
 go_loopw [1,12,13,14] (fun pv l f fv wr=>∃k gl cl gf cf:Nat,k+1<=n/\fv=.int .i64 ((k:Int)+1)/\pv=.int .i64 ((LR cs S0 k).p:Int)/\l=.slice (some ⟨gl,0,none⟩) (LR cs S0 k).lv.length cl/\f=.slice (some ⟨gf,0,none⟩) (LR cs S0 k).fr.length cf/\TS wb wr w2.heap.size gl cl gf cf (LR cs S0 k).zs (LR cs S0 k).lv (LR cs S0 k).fr) (fun _ _ _ fv _=>n-(intOf fv).toNat)
 case atStart =>
  refine⟨0,w2.heap.size+1,1,w2.heap.size+2,1,by omega,rfl,?_,?_,?_,?_⟩
  ·show _=Value.int .i64 (S0.p:Int);rw[HD0.out];rfl
  ·show _=Value.slice _ S0.lv.length _;rw[HD0.out];rfl
  ·show _=Value.slice _ S0.fr.length _;rw[HD0.out];rfl
  ·show TS wb _ _ _ _ _ _ S0.zs S0.lv S0.fr;rw[HD0.out];exact HT0.out
 case round =>
  obtain⟨k,gl,cl,gf,cf,hk,rfl,rfl,rfl,rfl,hts⟩:=hrel;have hok:=HALL.out k (by omega);have HSU:Hid (LR cs S0 (k+1)=ZI cs (k+1) (LR cs S0 k)):=Tt cs S0 k;have HZK:Hid (k+1=n->S1=LR cs S0 k):=fun e=>by rw[HD1.out,show n-1=k by omega]
  generalize LR cs S0 k=S at *;have eA:=YH hok HC.out (by omega);have eB:=Cf cs (S.p+1) 16 (by omega) HC.out (by have:=hok.pl;omega);have eT:=YV hok HC.out (by omega);have hd1:ZI cs (k+1) S=if S.lv.getD (dA cs S) 0<3/\S.zs.getD (Xu cs S) 0=0 then ⟨S.zs.set (Xu cs S) (Aw (S.lv.getD (dA cs S) 0) 1 ((k+1:Nat):Int) 0),S.lv++[S.lv.getD (dA cs S) 0+1],S.fr++[((k+1:Nat):Int)],S.p+2⟩ else ⟨S.zs,S.lv,S.fr,S.p+2⟩:=rfl;have hlA:=hok.lev _ eA.2;have hfA:=hok.frm _ eA.2;have hll:=hok.le;have HSM:=A5 hok.same;have HZL:=A5 hok.len;have hpl:S.p<=p+1+2*k:=Nat.le_of_eq hok.pl;generalize Xu cs S=T at *;generalize dA cs S=A at *;obtain⟨zs,lv,fr,P⟩:=S;dsimp only at *;have ht1:=HTK.out P lv.length;have ht2:=HTK.out (P+1) 16;rw[eA.1] at ht1;rw[show ((P+1:Nat):Int)=(P:Int)+1 from rfl] at ht2;generalize Bh cs (P+1) 16=B at *;obtain⟨eA0,eA1⟩:=eA;have HOK:=A5 hok;clear hok eA0;by_cases hlt:k+1<n
  ·have hb:=hts.bel;have ht1':=ht1 wr (by omega) (by omega) hb;have HT2:=A5 ht2;have HTS:=A5 hts;have HD:=A5 hd1;(have k1:(k:Int)+1<(n:Int):=by omega);clear ht1 ht2 hts hb hd1;(go_wp2_with fail);refine ht1'.mono ?_;rintro e w3 ⟨rfl,hb3⟩;have hts3:=HTS.out.below hb3;have ht2':=HT2.out w3 (by omega) (by omega) hts3.bel;have HTS3:=A5 hts3;clear ht1' hb3 hts3;(go_wp2_with fail);refine ht2'.mono ?_;rintro e w4 ⟨rfl,hb4⟩;have hts4:=HTS3.out.below hb4;have HTS4:=A5 hts4;obtain⟨gl4,cL⟩:=Ch hts4.rl A eA1;obtain⟨gf4,cF⟩:=Ch hts4.rf A (by have:=HSM.out;omega);have cW:=hts4.wrd.cell (i:=T) (by have:=HZL.out;omega);rw[show AQ Ae lv A=lv.getD A 0 from rfl] at cL;rw[show AQ Ae fr A=fr.getD A 0 from rfl] at cF;(have ew:∀wX,Calls prog 139 #[.int .i64 (lv.getD A 0),.agg #[.int .i64 1,.int .i64 ((k:Int)+1),.int .i64 0]] wX (AM wX (.int .u64 (Aw (lv.getD A 0) 1 ((k:Int)+1) 0))):=fun wX=>Bn _ _ _ _ wX);have n1:=hts4.n1;have n2:=hts4.n2;rw[show ((k+1:Nat):Int)=(k:Int)+1 from rfl] at HD;generalize Aw (lv.getD A 0) 1 ((k:Int)+1) 0=E at *;generalize lv.getD A 0=LA at *;generalize fr.getD A 0=FA at *;generalize zs.getD T 0=ZA at *;(have A1:(0:Int)<=(A:Int):=by omega);(have A2:(A:Int)<(lv.length:Int):=by omega);(have A3:(A:Int)<(fr.length:Int):=by have:=HSM.out;omega);(have T1:(0:Int)<=(T:Int):=by omega);(have T2:(T:Int)<(N:Int):=by omega);have eT1:=eT.1;(have T3:T<zs.length:=by have:=HZL.out;omega);(have F3:fr.length<=100:=by have:=HSM.out;omega);clear ht2' hb4 hts4 eT;by_cases h3:LA<3
   ·(have h3':decide (LA<3)=true:=by simpa using h3);by_cases hz:ZA=0
    ·rw[hz] at cW;have HDT2:Hid (LR cs S0 (k+1)=⟨zs.set T E,lv++[LA+1],fr++[(k:Int)+1],P+2⟩):=by
      show LR cs S0 (k+1)=_;rw[HSU.out,HD.out,if_pos ⟨h3,hz⟩]
     clear hz HD HSU;(go_wp2_with fail);refine(ew w4).mono ?_;rintro e w5 ⟨rfl,hb5⟩;have hts5:=HTS4.out.below hb5;have hts6:=hts5.put (i:=T) (v:=E) T3;have s5:=hts5.bel.size;obtain⟨gl5,cL5⟩:=Ch hts5.rl A eA1;rw[show AQ Ae lv A=LA from by simpa using (Option.some.inj (((hb5.cell (p:=⟨gl,A,none⟩) gl4).trans cL).symm.trans cL5)).symm] at cL5;have hfz:=World.rowIs.frozen hts5.wrd T;have hold:=hts5.wrd.cell (i:=T) T3;generalize zs.getD T 0=Zo at hold;have HTS6:=A5 hts6;have n1':=Ne.symm n1;have n2':=Ne.symm n2;clear hb5 hts5 hts6 cL cF cW;(go_wp2_with (at_builtin;refine wpList_append_lies _ rfl (.tmp 80) (.tmp 86) 91 rfl wb.heap.size 3 i0 _ 1 8 underlying91 hi hz0 hz1 hz2 rfl (by omega) _ _ _ rfl (World.ownsRow.alloc HTS6.out.rl _) ⟨_,0,none⟩ 1 1 [.int .i64 (LA+1)] rfl rfl ?c1 ?c2 (by omega) ?c3 ?c4 ?c5 _ rfl ?_));case c1 =>
      have h:=heap_alloc_new (w5.setCell ⟨w2.heap.size,T,none⟩ (.int .u64 E)) (.cells #[.int .i64 (LA+1)] 3);rw[World.size_setCell] at h;exact World.news_of_block h
     (case c2=>intro u hu;simp at hu;rcases hu with rfl;rfl);(case c3=>unfold maxLen;omega);(case c4=>omega);(case c5=>simp;omega);intro g7 c7 w7 hown hgrow hat hlt3;have hts7:=HTS6.out.pushL (x:=LA+1) hown hgrow (hat.imp id (fun h=>by rw[h];simp));have HTS7:=A5 hts7;have s7:=hts7.bel.size;clear hown hgrow hat hlt3 hts7 HTS6;(go_wp2_with (at_builtin;refine wpList_append_lies _ rfl (.tmp 88) (.tmp 90) 91 rfl wb.heap.size 3 i0 _ 1 8 underlying91 hi hz0 hz1 hz2 rfl (by omega) _ _ _ rfl (World.ownsRow.alloc HTS7.out.rf _) ⟨_,0,none⟩ 1 1 [.int .i64 ((k:Int)+1)] rfl rfl ?c1 ?c2 (by omega) ?c3 ?c4 ?c5 _ rfl ?_));(case c1=>exact World.news_of_block (heap_alloc_new _ (.cells #[.int .i64 ((k:Int)+1)] 3)));(case c2=>intro u hu;simp at hu;rcases hu with rfl;rfl);(case c3=>unfold maxLen;omega);(case c4=>omega);(case c5=>simp;omega);intro g8 c8 w8 hown hgrow hat hlt3;have hts8:=HTS7.out.pushF (x:=(k:Int)+1) hown hgrow (hat.imp id (fun h=>by rw[h];simp));have HTS8:=A5 hts8;clear hown hgrow hat hlt3 hts8 HTS7;(go_wp2_with fail);go_roundw;case rel =>
      refine⟨k+1,g7,c7,g8,c8,by omega,by go_num,?_,?_,?_,?_⟩
      ·rw[HDT2.out];congr 1
      ·rw[HDT2.out];simp
      ·rw[HDT2.out];simp
      ·rw[HDT2.out];exact HTS8.out
     case measure=>simp[intOf];omega
    ·(have hz':(ZA==0)=false:=by simpa using hz);have HDT2:Hid (LR cs S0 (k+1)=⟨zs,lv,fr,P+2⟩):=by
      show LR cs S0 (k+1)=_;rw[HSU.out,HD.out,if_neg (by simp[hz])]
     clear HD HSU;(go_wp2_with fail);go_roundw;case rel =>
      refine⟨k+1,gl,cl,gf,cf,by omega,by go_num,?_,?_,?_,?_⟩
      ·rw[HDT2.out];congr 1
      ·rw[HDT2.out]
      ·rw[HDT2.out]
      ·rw[HDT2.out];exact HTS4.out
     case measure=>simp[intOf];omega
   ·(have h3':decide (LA<3)=false:=by simpa using h3);have HDT2:Hid (LR cs S0 (k+1)=⟨zs,lv,fr,P+2⟩):=by
     show LR cs S0 (k+1)=_;rw[HSU.out,HD.out,if_neg (by simp;omega)]
    clear HD HSU;(go_wp2_with fail);go_roundw;case rel =>
     refine⟨k+1,gl,cl,gf,cf,by omega,by go_num,?_,?_,?_,?_⟩
     ·rw[HDT2.out];congr 1
     ·rw[HDT2.out]
     ·rw[HDT2.out]
     ·rw[HDT2.out];exact HTS4.out
    case measure=>simp[intOf];omega
  ·(have e:k+1=n:=by omega);have HS1:Hid (S1=⟨zs,lv,fr,P⟩):=HZK.out e;have HE0:Hid (Oq N (P+1) (zs,P)):=⟨HZL.out,HOK.out.wrd,Nat.le_succ _⟩;(have hfl:fr.length<=100:=by have:=HSM.out;omega);have HKN:=A5 e;(have k1:¬(k:Int)+1<(n:Int):=by omega);have HTS:=A5 hts;have HLV:=A5 HOK.out.lev;have HFR:=A5 HOK.out.frm;clear ht1 ht2 hts hd1 eB eT hlA hfA HSU HOK HZK HALL e;(go_wp2_with fail);(go_loopw [1,15] (fun pv iv wr=>∃i:Nat,i<=fr.length/\iv=.int .i64 (i:Int)/\pv=.int .i64 ((Tk cs lv fr (zs,P) i).2:Int)/\TS wb wr w2.heap.size gl cl gf cf (Tk cs lv fr (zs,P) i).1 lv fr) (fun _ iv _=>fr.length-(intOf iv).toNat));(case atStart=>exact⟨0,Nat.zero_le _,rfl,rfl,HTS.out⟩);case round =>
    obtain⟨i,hi5,rfl,rfl,hts⟩:=hrel;have hei:=HE0.out.c (cs:=cs) lv fr HC.out i (by omega);have HSC:Hid (Tk cs lv fr (zs,P) (i+1)=Tg cs (lv.getD i 0) (fr.getD i 0) (Tk cs lv fr (zs,P) i) 5):=A6 rfl;(have HFI:Hid (i=fr.length->RT=Tk cs lv fr (zs,P) i):=fun e=>by rw[HDT.out,HS1.out,e]);generalize Tk cs lv fr (zs,P) i=C at *;by_cases hlt2:i<fr.length
    ·have hFi:=HFR.out i (by have:=HSM.out;omega);(have I1:(i:Int)<(fr.length:Int):=by omega);(have I2:(i:Int)<(lv.length:Int):=by have:=HSM.out;omega);(have I0:(0:Int)<=(i:Int):=by omega);have HTSo:=A5 hts;have HEI:=A5 hei;have HLe:Hid (AQ Ae lv i=lv.getD i 0):=rfl;have HFe:Hid (AQ Ae fr i=fr.getD i 0):=rfl;generalize lv.getD i 0=L at *;generalize fr.getD i 0=F at *;clear hts hei HFI;(go_wp2_with fail);(go_loopw [1,16] (fun pv kv wr=>∃q:Nat,q<=5/\kv=.int .i64 (q:Int)/\pv=.int .i64 ((Tg cs L F C q).2:Int)/\TS wb wr w2.heap.size gl cl gf cf (Tg cs L F C q).1 lv fr) (fun _ kv _=>5-(intOf kv).toNat));(case atStart=>exact⟨0,Nat.zero_le _,rfl,rfl,HTSo.out⟩);case round =>
      obtain⟨q,hq5,rfl,rfl,hts⟩:=hrel;have heq:=HEI.out.b (cs:=cs) L F HC.out q (by omega);have HSB:Hid (Tg cs L F C (q+1)=(Gd cs F q (Tg cs L F C q).2 (KP cs L F (Tg cs L F C q)).1,(KP cs L F (Tg cs L F C q)).2)):=A6 rfl;(have HFQ:Hid (q=5->Tk cs lv fr (zs,P) (i+1)=Tg cs L F C q):=fun e=>by rw[HSC.out,e]);generalize Tg cs L F C q=D at *;obtain⟨zq,Pq⟩:=D;have HZQ:=A5 heq.len;have hpq:Pq<=P+1+10*i+2*q:=heq.pl;dsimp only at *;by_cases hlt3:q<5
      ·have hb:=hts.bel;have ht1:=HTK.out Pq 16 wr (by omega) (by omega) hb;have hA:=Cf cs Pq 16 (by omega) HC.out (by omega);(have hTT:F*16+Bh cs Pq 16=(KO cs F Pq:Int)/\KO cs F Pq<16*k+16:=by unfold KO;omega);have HDA:Hid (KP cs L F (zq,Pq)=if 1<L/\zq.getD (KO cs F Pq) 0=0 then (zq.set (KO cs F Pq) (I8 L (Bh cs (Pq+1) 4096)),Pq+2) else (zq,Pq+1)):=A6 rfl;(have HDB:Hid (∀zz,Gd cs F q Pq zz=if q=4/\zz.getD (KO cs F Pq) 0=0/\Bh cs Pq 16%2=0 then zz.set (KO cs F Pq) (Bh cs Pq 16*4) else zz):=fun zz=>rfl);have ht2:=HTK.out (Pq+1) 4096;rw[show ((Pq+1:Nat):Int)=(Pq:Int)+1 from rfl] at ht2;have hBv:=Cf cs (Pq+1) 4096 (by omega) HC.out (by omega);generalize Bh cs (Pq+1) 4096=Bv at *;generalize Bh cs Pq 16=A at *;generalize KO cs F Pq=T at *;obtain⟨eT,eTl⟩:=hTT;(have T1:(0:Int)<=(T:Int):=by omega);(have T2:(T:Int)<(N:Int):=by have:=HKN.out;omega);(have T3:T<zq.length:=by have:=HZQ.out;have:=HKN.out;omega);(have q5:(q:Int)<5:=by omega);(have W1:IntKind.u64.wrap A=A:=by rw[IntKind.wrap_u64];omega);(have W2:IntKind.u64.wrap (A*4)=A*4:=by rw[IntKind.wrap_u64];omega);have M2:A.tmod 2=A%2:=Int.tmod_eq_emod_of_nonneg (by omega);have M7:Bv.tmod 7=Bv%7:=Int.tmod_eq_emod_of_nonneg (by omega);have HTS2:=A5 hts;have HT2:=A5 ht2;clear hts hb heq ht2 HFQ;(go_wp2_with fail);refine ht1.mono ?_;rintro e w4 ⟨rfl,hb4⟩;have hts4:=HTS2.out.below hb4;obtain⟨gl4,cL⟩:=Ch hts4.rl i (by have:=HSM.out;omega);obtain⟨gf4,cF⟩:=Ch hts4.rf i (by omega);rw[HLe.out] at cL;rw[HFe.out] at cF;have cW:=hts4.wrd.cell (i:=T) T3;have hfz:=World.rowIs.frozen hts4.wrd T;have n1:=hts4.n1;have n2:=hts4.n2;have HTS4:=A5 hts4;(obtain⟨ZQ,hZQ⟩:∃ZQ,zq.getD T 0=ZQ:=⟨_,rfl⟩);rw[hZQ] at cW;rw[hZQ] at HDA;have HZE:=A5 hZQ;clear hZQ;clear ht1 hb4 hts4;by_cases hL:1<L
       ·by_cases hz:ZQ=0
        ·rw[hz] at cW;have HD2a:Hid (KP cs L F (zq,Pq)=(zq.set T (I8 L Bv),Pq+2)):=A6 (by rw[HDA.out,if_pos ⟨hL,hz⟩]);have ht2:=HT2.out w4 (by omega) (by omega) HTS4.out.bel;clear HT2 hz;(go_wp2_with fail);refine ht2.mono ?_;rintro e w5 ⟨rfl,hb5⟩;have hts5:=HTS4.out.below hb5;have cL5:=(hb5.cell (p:=⟨gl,i,none⟩) gl4).trans cL;have HTS5:=A5 hts5;clear ht2 hts5 cL cF cW hfz;by_cases hl2:L=2
         ·have HDW:Hid (I8 L Bv=Aw 2 2 (Bv*16) (Bv%7+1)):=A6 (by unfold I8;rw[if_pos hl2]);(have ew:∀wX,Calls prog 139 #[.int .i64 2,.agg #[.int .i64 2,.int .i64 (Bv*16),.int .i64 (Bv%7+1)]] wX (AM wX (.int .u64 (Aw 2 2 (Bv*16) (Bv%7+1)))):=fun wX=>Bn _ _ _ _ wX);have HD2:Hid (KP cs L F (zq,Pq)=(zq.set T (Aw 2 2 (Bv*16) (Bv%7+1)),Pq+2)):=A6 (by rw[HD2a.out,HDW.out]);generalize Aw 2 2 (Bv*16) (Bv%7+1)=E at *;clear HDW HD2a HDA;(go_wp2_with fail);refine(ew w5).mono ?_;rintro e w6 ⟨rfl,hb6⟩;have hts6:=HTS5.out.below hb6;have hold:=hts6.wrd.cell (i:=T) T3;have hfz:=World.rowIs.frozen hts6.wrd T;generalize zq.getD T 0=Zo at hold;have HTS7:Hid (TS _ _ _ _ _ _ _ _ _ _):=A6 (hts6.put (i:=T) (v:=E) T3);clear hb6 hts6 ew cL5 hb5;by_cases hk4:q=4
          ·(have hk4p:(q:Int)=4:=by omega);by_cases hz2:E=0
           ·by_cases ha2:A%2=0
            ·have HV:Hid (q=4/\(zq.set T E).getD T 0=0/\A%2=0):=A6 ⟨hk4,by first|(rw[HZE.out];exact hz2)|(rw[DQ,if_pos ⟨rfl,T3⟩];exact hz2),ha2⟩;have HTZ:Hid (TS _ _ _ _ _ _ _ _ _ _):=A6 (HTS7.out.put (i:=T) (v:=A*4) (by first|exact T3|(rw[List.length_set];exact T3)));subst hk4;subst hz2;(go_wp2_with fail);go_roundw;case rel =>
              refine⟨4+1,by omega,by go_num,?_,?_⟩
              ·rw[HSB.out,HD2.out];first|rfl|congr 1
              ·rw[HSB.out,HD2.out];show TS _ _ _ _ _ _ _ (Gd cs F 4 Pq _) _ _;rw[HDB.out,if_pos HV.out];exact HTZ.out
             case measure=>first|(simp[intOf];done)|(simp[intOf];omega)
            ·(have ha2b:(A%2==0)=false:=by simpa using ha2);have HV:Hid (¬(q=4/\(zq.set T E).getD T 0=0/\A%2=0)):=A6 (fun h=>ha2 h.2.2);subst hk4;subst hz2;(go_wp2_with fail);go_roundw;case rel =>
              refine⟨4+1,by omega,by go_num,?_,?_⟩
              ·rw[HSB.out,HD2.out];first|rfl|congr 1
              ·rw[HSB.out,HD2.out];show TS _ _ _ _ _ _ _ (Gd cs F 4 Pq _) _ _;rw[HDB.out,if_neg HV.out];exact HTS7.out
             case measure=>first|(simp[intOf];done)|(simp[intOf];omega)
           ·(have hz2b:(E==0)=false:=by simpa using hz2);have HV:Hid (¬(q=4/\(zq.set T E).getD T 0=0/\A%2=0)):=A6 (fun h=>hz2 (by have h2:=h.2.1;first|(rw[HZE.out] at h2;exact h2)|(rw[DQ,if_pos ⟨rfl,T3⟩] at h2;exact h2)));subst hk4;(go_wp2_with fail);go_roundw;case rel =>
             refine⟨4+1,by omega,by go_num,?_,?_⟩
             ·rw[HSB.out,HD2.out];first|rfl|congr 1
             ·rw[HSB.out,HD2.out];show TS _ _ _ _ _ _ _ (Gd cs F 4 Pq _) _ _;rw[HDB.out,if_neg HV.out];exact HTS7.out
            case measure=>first|(simp[intOf];done)|(simp[intOf];omega)
          ·(have hk4p:¬(q:Int)=4:=by omega);(have hk4b:((q:Int)==4)=false:=by simpa using hk4p);have HV:Hid (¬(q=4/\(zq.set T E).getD T 0=0/\A%2=0)):=A6 (fun h=>hk4 h.1);(go_wp2_with fail);go_roundw;case rel =>
            refine⟨q+1,by omega,by go_num,?_,?_⟩
            ·rw[HSB.out,HD2.out];first|rfl|congr 1
            ·rw[HSB.out,HD2.out];show TS _ _ _ _ _ _ _ (Gd cs F q Pq _) _ _;rw[HDB.out,if_neg HV.out];exact HTS7.out
           case measure=>first|(simp[intOf];done)|(simp[intOf];omega)
         ·(have hl2b:(L==2)=false:=by simpa using hl2);have HDW:Hid (I8 L Bv=Aw 3 3 (Bv*3) (Bv%7+1)):=A6 (by unfold I8;rw[if_neg hl2]);(have ew:∀wX,Calls prog 139 #[.int .i64 3,.agg #[.int .i64 3,.int .i64 (Bv*3),.int .i64 (Bv%7+1)]] wX (AM wX (.int .u64 (Aw 3 3 (Bv*3) (Bv%7+1)))):=fun wX=>Bn _ _ _ _ wX);have HD2:Hid (KP cs L F (zq,Pq)=(zq.set T (Aw 3 3 (Bv*3) (Bv%7+1)),Pq+2)):=A6 (by rw[HD2a.out,HDW.out]);generalize Aw 3 3 (Bv*3) (Bv%7+1)=E at *;clear HDW HD2a HDA;(go_wp2_with fail);refine(ew w5).mono ?_;rintro e w6 ⟨rfl,hb6⟩;have hts6:=HTS5.out.below hb6;have hold:=hts6.wrd.cell (i:=T) T3;have hfz:=World.rowIs.frozen hts6.wrd T;generalize zq.getD T 0=Zo at hold;have HTS7:Hid (TS _ _ _ _ _ _ _ _ _ _):=A6 (hts6.put (i:=T) (v:=E) T3);clear hb6 hts6 ew cL5 hb5;by_cases hk4:q=4
          ·(have hk4p:(q:Int)=4:=by omega);by_cases hz2:E=0
           ·by_cases ha2:A%2=0
            ·have HV:Hid (q=4/\(zq.set T E).getD T 0=0/\A%2=0):=A6 ⟨hk4,by first|(rw[HZE.out];exact hz2)|(rw[DQ,if_pos ⟨rfl,T3⟩];exact hz2),ha2⟩;have HTZ:Hid (TS _ _ _ _ _ _ _ _ _ _):=A6 (HTS7.out.put (i:=T) (v:=A*4) (by first|exact T3|(rw[List.length_set];exact T3)));subst hk4;subst hz2;(go_wp2_with fail);go_roundw;case rel =>
              refine⟨4+1,by omega,by go_num,?_,?_⟩
              ·rw[HSB.out,HD2.out];first|rfl|congr 1
              ·rw[HSB.out,HD2.out];show TS _ _ _ _ _ _ _ (Gd cs F 4 Pq _) _ _;rw[HDB.out,if_pos HV.out];exact HTZ.out
             case measure=>first|(simp[intOf];done)|(simp[intOf];omega)
            ·(have ha2b:(A%2==0)=false:=by simpa using ha2);have HV:Hid (¬(q=4/\(zq.set T E).getD T 0=0/\A%2=0)):=A6 (fun h=>ha2 h.2.2);subst hk4;subst hz2;(go_wp2_with fail);go_roundw;case rel =>
              refine⟨4+1,by omega,by go_num,?_,?_⟩
              ·rw[HSB.out,HD2.out];first|rfl|congr 1
              ·rw[HSB.out,HD2.out];show TS _ _ _ _ _ _ _ (Gd cs F 4 Pq _) _ _;rw[HDB.out,if_neg HV.out];exact HTS7.out
             case measure=>first|(simp[intOf];done)|(simp[intOf];omega)
           ·(have hz2b:(E==0)=false:=by simpa using hz2);have HV:Hid (¬(q=4/\(zq.set T E).getD T 0=0/\A%2=0)):=A6 (fun h=>hz2 (by have h2:=h.2.1;first|(rw[HZE.out] at h2;exact h2)|(rw[DQ,if_pos ⟨rfl,T3⟩] at h2;exact h2)));subst hk4;(go_wp2_with fail);go_roundw;case rel =>
             refine⟨4+1,by omega,by go_num,?_,?_⟩
             ·rw[HSB.out,HD2.out];first|rfl|congr 1
             ·rw[HSB.out,HD2.out];show TS _ _ _ _ _ _ _ (Gd cs F 4 Pq _) _ _;rw[HDB.out,if_neg HV.out];exact HTS7.out
            case measure=>first|(simp[intOf];done)|(simp[intOf];omega)
          ·(have hk4p:¬(q:Int)=4:=by omega);(have hk4b:((q:Int)==4)=false:=by simpa using hk4p);have HV:Hid (¬(q=4/\(zq.set T E).getD T 0=0/\A%2=0)):=A6 (fun h=>hk4 h.1);(go_wp2_with fail);go_roundw;case rel =>
            refine⟨q+1,by omega,by go_num,?_,?_⟩
            ·rw[HSB.out,HD2.out];first|rfl|congr 1
            ·rw[HSB.out,HD2.out];show TS _ _ _ _ _ _ _ (Gd cs F q Pq _) _ _;rw[HDB.out,if_neg HV.out];exact HTS7.out
           case measure=>first|(simp[intOf];done)|(simp[intOf];omega)
        ·(have hzb:(ZQ==0)=false:=by simpa using hz);have HD2:Hid (KP cs L F (zq,Pq)=(zq,Pq+1)):=A6 (by rw[HDA.out,if_neg (by simp[hz])]);clear HT2 HDA;by_cases hk4:q=4
         ·(have hk4p:(q:Int)=4:=by omega);by_cases hz2:ZQ=0
          ·exact absurd hz2 hz
          ·have HV:Hid (¬(q=4/\(zq).getD T 0=0/\A%2=0)):=A6 (fun h=>hz2 (by have h2:=h.2.1;first|(rw[HZE.out] at h2;exact h2)|(rw[DQ,if_pos ⟨rfl,T3⟩] at h2;exact h2)));subst hk4;(go_wp2_with fail);go_roundw;case rel =>
            refine⟨4+1,by omega,by go_num,?_,?_⟩
            ·rw[HSB.out,HD2.out];first|rfl|congr 1
            ·rw[HSB.out,HD2.out];show TS _ _ _ _ _ _ _ (Gd cs F 4 Pq _) _ _;rw[HDB.out,if_neg HV.out];exact HTS4.out
           case measure=>first|(simp[intOf];done)|(simp[intOf];omega)
         ·(have hk4p:¬(q:Int)=4:=by omega);(have hk4b:((q:Int)==4)=false:=by simpa using hk4p);have HV:Hid (¬(q=4/\(zq).getD T 0=0/\A%2=0)):=A6 (fun h=>hk4 h.1);(go_wp2_with fail);go_roundw;case rel =>
           refine⟨q+1,by omega,by go_num,?_,?_⟩
           ·rw[HSB.out,HD2.out];first|rfl|congr 1
           ·rw[HSB.out,HD2.out];show TS _ _ _ _ _ _ _ (Gd cs F q Pq _) _ _;rw[HDB.out,if_neg HV.out];exact HTS4.out
          case measure=>first|(simp[intOf];done)|(simp[intOf];omega)
       ·(have hLb:decide (1<L)=false:=by simpa using hL);have HD2:Hid (KP cs L F (zq,Pq)=(zq,Pq+1)):=A6 (by rw[HDA.out,if_neg (by simp[hL])]);clear HT2 HDA;by_cases hk4:q=4
        ·(have hk4p:(q:Int)=4:=by omega);by_cases hz2:ZQ=0
         ·by_cases ha2:A%2=0
          ·have HV:Hid (q=4/\(zq).getD T 0=0/\A%2=0):=A6 ⟨hk4,by first|(rw[HZE.out];exact hz2)|(rw[DQ,if_pos ⟨rfl,T3⟩];exact hz2),ha2⟩;have HTZ:Hid (TS _ _ _ _ _ _ _ _ _ _):=A6 (HTS4.out.put (i:=T) (v:=A*4) (by first|exact T3|(rw[List.length_set];exact T3)));subst hk4;rw[hz2] at cW;(go_wp2_with fail);go_roundw;case rel =>
            refine⟨4+1,by omega,by go_num,?_,?_⟩
            ·rw[HSB.out,HD2.out];first|rfl|congr 1
            ·rw[HSB.out,HD2.out];show TS _ _ _ _ _ _ _ (Gd cs F 4 Pq _) _ _;rw[HDB.out,if_pos HV.out];exact HTZ.out
           case measure=>first|(simp[intOf];done)|(simp[intOf];omega)
          ·(have ha2b:(A%2==0)=false:=by simpa using ha2);have HV:Hid (¬(q=4/\(zq).getD T 0=0/\A%2=0)):=A6 (fun h=>ha2 h.2.2);subst hk4;rw[hz2] at cW;(go_wp2_with fail);go_roundw;case rel =>
            refine⟨4+1,by omega,by go_num,?_,?_⟩
            ·rw[HSB.out,HD2.out];first|rfl|congr 1
            ·rw[HSB.out,HD2.out];show TS _ _ _ _ _ _ _ (Gd cs F 4 Pq _) _ _;rw[HDB.out,if_neg HV.out];exact HTS4.out
           case measure=>first|(simp[intOf];done)|(simp[intOf];omega)
         ·(have hz2b:(ZQ==0)=false:=by simpa using hz2);have HV:Hid (¬(q=4/\(zq).getD T 0=0/\A%2=0)):=A6 (fun h=>hz2 (by have h2:=h.2.1;first|(rw[HZE.out] at h2;exact h2)|(rw[DQ,if_pos ⟨rfl,T3⟩] at h2;exact h2)));subst hk4;(go_wp2_with fail);go_roundw;case rel =>
           refine⟨4+1,by omega,by go_num,?_,?_⟩
           ·rw[HSB.out,HD2.out];first|rfl|congr 1
           ·rw[HSB.out,HD2.out];show TS _ _ _ _ _ _ _ (Gd cs F 4 Pq _) _ _;rw[HDB.out,if_neg HV.out];exact HTS4.out
          case measure=>first|(simp[intOf];done)|(simp[intOf];omega)
        ·(have hk4p:¬(q:Int)=4:=by omega);(have hk4b:((q:Int)==4)=false:=by simpa using hk4p);have HV:Hid (¬(q=4/\(zq).getD T 0=0/\A%2=0)):=A6 (fun h=>hk4 h.1);(go_wp2_with fail);go_roundw;case rel =>
          refine⟨q+1,by omega,by go_num,?_,?_⟩
          ·rw[HSB.out,HD2.out];first|rfl|congr 1
          ·rw[HSB.out,HD2.out];show TS _ _ _ _ _ _ _ (Gd cs F q Pq _) _ _;rw[HDB.out,if_neg HV.out];exact HTS4.out
         case measure=>first|(simp[intOf];done)|(simp[intOf];omega)
      ·(have e5:q=5:=by omega);have HTS2:=A5 hts;have HQQ:Hid (Tk cs lv fr (zs,P) (i+1)=(zq,Pq)):=HFQ.out e5;subst e5;clear hts heq HFQ HSB;(go_wp2_with fail);go_roundw;case rel =>
        refine⟨i+1,by omega,by go_num,?_,?_⟩
        ·rw[HQQ.out]
        ·rw[HQQ.out];exact HTS2.out
       case measure=>first|(simp[intOf];done)|(simp[intOf];omega)
    ·(have ei:i=fr.length:=by omega);have HR:Hid (RT=C):=HFI.out ei;have HTSo:=A5 hts;have hb:=hts.bel;have qr:=(hb.cell (p:=⟨w.heap.size,0,none⟩) (by simp;omega)).trans qb;have fr2:=(hb.frozen (p:=⟨w.heap.size,0,none⟩) (by simp;omega)).trans fb;have HLC:=A5 hei.len;have HB:=A5 hb;(have I1:¬(i:Int)<(fr.length:Int):=by omega);clear hts hb hei HFI HSC HDT ei;(go_wp2_with fail);rw[HR.out,HLC.out];refine bodyPost_ret (v:=.tuple #[.agg #[.slice (some ⟨w2.heap.size,0,none⟩) N N],.int .i64 (C.2:Int)]) (by simp[results,results68,go_sem,qr]) rfl ⟨w2.heap.size,rfl,by omega,?_,?_⟩
     ·exact World.rowIs.setOther HTSo.out.wrd (by simp<;>omega) _
     ·exact HBB.out.trans ((HB.out.mono (by omega)).setCell (by simp<;>omega) _)
end Go.Proofs.YtnmhkgmmpkjjeaaGreat
