import Derived.Test.YtnmhkgmmpkjjeaaGreatK31
namespace Go.Proofs.YtnmhkgmmpkjjeaaGreat
open Go.ChangeShapes Go.WideShapes Go.ChangeAt Go.RowKit
set_option linter.unusedVariables false
set_option maxRecDepth 100000
attribute [local go_sem ↓] Go.wp_at_zero Go.wp_at_succ
theorem P0 (w:World) (x:Int) (b:Nat) (hb:b<=w.heap.size):A6 AW (w.alloc (.cells #[.int .i64 x] 3)) b (.slice (some ⟨w.heap.size,0,none⟩) 1 1) [x] :=
 ⟨rfl,.inr ⟨w.heap.size,1,#[.int .i64 x],rfl,hb,heap_alloc_new w _,Nat.le_refl _,by unfold maxLen;omega,rfl,rfl⟩⟩
theorem U1 (cs:List Int) (s:DS) (k:Nat):Kr cs s (k+1)=YH cs (k+1) (Kr cs s k):=rfl
theorem UB (w:World) (n:Nat):CQ (w.alloc (.cells (madeCells #[.int .u64 0] n) 75)) w.heap.size (List.replicate n 0):=by
 unfold CQ;rw[List.length_replicate];refine(World.rowIs_made w (.int .u64 0) n 75).congr ?_;intro i hi;rw[GV]
theorem Wk {cs:List Int} {N p0 k:Nat} {S:DS} (h:SF N p0 k S) (hc:GQ cs) (hp:p0+2*k<=900000):Az cs S.p S.lv.length=(dA cs S:Int)/\dA cs S<S.lv.length:=by
 have hA:=Bz cs S.p S.lv.length (by have:=h.pos;omega) hc (by have:=h.pl;omega);unfold dA;omega
theorem XS {cs:List Int} {N p0 k:Nat} {S:DS} (h:SF N p0 k S) (hc:GQ cs) (hp:p0+2*k<=900000):S.fr.getD (dA cs S) 0*16+Az cs (S.p+1) 16=(Ws cs S:Int)/\Ws cs S<16*k+16:=by
 have hB:=Bz cs (S.p+1) 16 (by omega) hc (by have:=h.pl;omega);have hF:=h.frm _ (Wk h hc hp).2;unfold Ws;omega
set_option maxHeartbeats 4000000 in
theorem NE (a:Option Addr) (cap:Nat) (cs:List Int) (p:Nat) (w:World) (hc:GQ cs) (hp:p<=100000) (hs:Ly w a cs) : Calls Tryz.prog 68 #[.slice a cs.length cap,.int .i64 (p:Int)] w fun e w'=>∃g,e=.returned (.tuple #[.agg #[.slice (some ⟨g,0,none⟩) (Bk cs p).1.length (Bk cs p).1.length],.int .i64 ((Bk cs p).2:Int)])/\w.heap.size<=g/\CQ w' g (Bk cs p).1/\Below w.heap.size w w':=by
 have hlen:=hc.1;obtain⟨i0,hi,hz0,hz1,hz2⟩:=info_parts Ny;obtain⟨wb,hwb⟩:∃wb,wb=w.alloc (.cells #[.slice none 0 0] 35):=⟨_,rfl⟩
 have hbb:Below w.heap.size w wb:=by rw[hwb];exact Ax
 have hzb:wb.heap.size=w.heap.size+1:=by rw[hwb];simp
 have qb:wb.cell? ⟨w.heap.size,0,none⟩=some (.slice none 0 0):=by rw[hwb];simp[go_sem]
 have fb:wb.frozen? ⟨w.heap.size,0,none⟩=false:=by rw[hwb];simp[go_sem]
 have HTK:Hid (∀(q:Nat) (n:Int) (wX:World),q<=1000000->n<=1000000->Below wb.heap.size wb wX->Calls Tryz.prog 64 #[.slice a cs.length cap,.int .i64 (q:Int),.int .i64 n] wX fun e w'=>e=.returned (.tuple #[.int .i64 (Az cs q n),.int .i64 ((q:Int)+1)])/\Below wX.heap.size wX w') :=
  fun q n wX h1 h2 hX=>Dd a cap cs q n wX hc h1 h2 (hs.below (hbb.trans (hX.mono (by omega))))
 have hsz:=LM a cap cs 6 3 24 wb hlen (by omega) (by omega) (by omega);have hdn:=Qt cs;have hdx:=Wg cs p hc hp;have h1ok:=Wi cs p hc hp;have hdok:=PK cs p hc hp;have HALL:Hid (∀k,k<=24->SF (16*(dN cs+dX cs p)) (p+1) k (Kr cs (d0 cs p) k)):=fun k hk=>(Wv cs p).all hc k (by omega)
 have esz:(if (24:Int)<3+(cs.length:Int)/6 then 24 else 3+(cs.length:Int)/6)=(dN cs:Int):=by
  unfold dN;split<;>split<;>omega
 rw[esz,hwb] at hsz;have HWB:Hid (wb=_):=hwb;have HBB:Hid (Below w.heap.size w wb):=hbb;have HC:Hid (GQ cs):=hc;have HDOK:Hid (NJ _ _ _):=hdok;have H1OK:Hid (SF _ _ _ _):=h1ok;have HX:Hid (Az cs p 3=dX cs p):=hdx.1;have hx3:=hdx.2;have HD1:Hid (d1 cs p=Kr cs (d0 cs p) (dN cs-1)):=rfl;have HDT:Hid (Bk cs p=TC cs (d1 cs p).lv (d1 cs p).fr ((d1 cs p).zs,(d1 cs p).p) (d1 cs p).fr.length):=rfl;have HD0:Hid (d0 cs p=⟨List.replicate (16*(dN cs+dX cs p)) 0,[1],[0],p+1⟩):=rfl;generalize Bk cs p=RT at *;generalize d1 cs p=S1 at *;generalize d0 cs p=S0 at *;generalize dX cs p=x at *;generalize dN cs=n at *;have eN:(16:Int)*((n:Int)+(x:Int))=((16*(n+x):Nat):Int):=by omega
 have hNb:16*(n+x)<=416:=by omega
 have hN16:16*n<=16*(n+x):=by omega
 generalize 16*(n+x)=N at *;have hmk:=run_make_row' (P:=Tryz.prog) 33 75 (.int .u64 0) 8 Tryz.underlying33 Fb rfl .i64 .i64 N (by omega) (by omega);have hzb2:w.heap.size<wb.heap.size:=by omega
 clear hc hs hwb hbb hdok h1ok hdx esz hzb;go_enter Tryz.func68,Tryz.ntmps68
 go_wp2_with fail
 refine hsz.mono ?_;rintro e w1 ⟨rfl,hb1'⟩;have hb1:Below wb.heap.size wb w1:=by rw[HWB.out];exact hb1'
 have s1:=hb1.size;have ht:=HTK.out p 3 w1 (by omega) (by omega) hb1;rw[HX.out] at ht;have HB1:Hid (Below wb.heap.size wb w1):=hb1;clear hsz hb1 hb1';go_wp2_with fail
 refine ht.mono ?_;rintro e w2 ⟨rfl,hb2'⟩;have hb2:Below wb.heap.size wb w2:=HB1.out.trans (hb2'.mono s1);have s2:=hb2.size;have HB2:Hid (Below wb.heap.size wb w2):=hb2;have HT0:Hid (TS wb (((w2.alloc (.cells (madeCells #[.int .u64 0] N) 75)).alloc (.cells #[.int .i64 1] 3)).alloc (.cells #[.int .i64 0] 3)) w2.heap.size (w2.heap.size+1) 1 (w2.heap.size+2) 1 (List.replicate N 0) [1] [0]):=by
  obtain⟨wm,hwm⟩:∃wm,wm=w2.alloc (.cells (madeCells #[.int .u64 0] N) 75):=⟨_,rfl⟩
  have z1:wm.heap.size=w2.heap.size+1:=by rw[hwm];simp
  have r1:CQ wm w2.heap.size (List.replicate N 0):=by rw[hwm];exact UB w2 N
  have bm:Below wb.heap.size wb wm:=by rw[hwm];exact hb2.alloc s2 _
  rw[<- hwm];have e1:=P0 wm 1 wb.heap.size (by omega);have e2:=P0 (wm.alloc (.cells #[.int .i64 1] 3)) 0 wb.heap.size (by simp;omega);rw[z1] at e1;rw[World.size_alloc,z1] at e2;refine⟨(bm.alloc (by omega) _).alloc (by simp;omega) _,World.rowIs.alloc (World.rowIs.alloc r1 _) _,s2,e1.below Ax,e2,by omega,by omega,by omega⟩
 clear ht hb2 hb2' HB1;go_wp2_with fail
 clear hmk;obtain⟨G,hG⟩:∃G,G=w2.heap.size:=⟨_,rfl⟩
 go_loopw [1,12,13,14] (fun pv l f fv wr=>∃k gl cl gf cf:Nat,k+1<=n/\fv=.int .i64 ((k:Int)+1)/\pv=.int .i64 ((Kr cs S0 k).p:Int)/\l=.slice (some ⟨gl,0,none⟩) (Kr cs S0 k).lv.length cl/\f=.slice (some ⟨gf,0,none⟩) (Kr cs S0 k).fr.length cf/\TS wb wr w2.heap.size gl cl gf cf (Kr cs S0 k).zs (Kr cs S0 k).lv (Kr cs S0 k).fr) (fun _ _ _ fv _=>n-(intOf fv).toNat)
 case atStart =>
  refine⟨0,w2.heap.size+1,1,w2.heap.size+2,1,by omega,rfl,?_,?_,?_,?_⟩
  ·show _=Value.int .i64 (S0.p:Int);rw[HD0.out];rfl
  ·show _=Value.slice _ S0.lv.length _;rw[HD0.out];rfl
  ·show _=Value.slice _ S0.fr.length _;rw[HD0.out];rfl
  ·show TS wb _ _ _ _ _ _ S0.zs S0.lv S0.fr;rw[HD0.out];exact HT0.out
 case round =>
  obtain⟨k,gl,cl,gf,cf,hk,rfl,rfl,rfl,rfl,hts⟩:=hrel;have hok:=HALL.out k (by omega);have HSU:Hid (Kr cs S0 (k+1)=YH cs (k+1) (Kr cs S0 k)):=U1 cs S0 k;have HZK:Hid (k+1=n->S1=Kr cs S0 k):=fun e=>by rw[HD1.out,show n-1=k by omega]
  generalize Kr cs S0 k=S at *;have eA:=Wk hok HC.out (by omega);have eB:=Bz cs (S.p+1) 16 (by omega) HC.out (by have:=hok.pl;omega);have eT:=XS hok HC.out (by omega);have hd1:YH cs (k+1) S=if S.lv.getD (dA cs S) 0<3/\S.zs.getD (Ws cs S) 0=0 then ⟨S.zs.set (Ws cs S) (Am (S.lv.getD (dA cs S) 0) 1 ((k+1:Nat):Int) 0),S.lv++[S.lv.getD (dA cs S) 0+1],S.fr++[((k+1:Nat):Int)],S.p+2⟩ else ⟨S.zs,S.lv,S.fr,S.p+2⟩:=rfl;have hlA:=hok.lev _ eA.2;have hfA:=hok.frm _ eA.2;have hll:=hok.le;have HSM:Hid (S.fr.length=S.lv.length):=hok.same;have HZL:Hid (S.zs.length=N):=hok.len;have hpl:S.p<=p+1+2*k:=Nat.le_of_eq hok.pl;generalize Ws cs S=T at *;generalize dA cs S=A at *;obtain⟨zs,lv,fr,P⟩:=S;dsimp only at *;have ht1:=HTK.out P lv.length;have ht2:=HTK.out (P+1) 16;rw[eA.1] at ht1;rw[show ((P+1:Nat):Int)=(P:Int)+1 from rfl] at ht2;generalize Az cs (P+1) 16=B at *;obtain⟨eA0,eA1⟩:=eA;have HOK:Hid _:=hok;clear hok eA0;by_cases hlt:k+1<n
  ·have hb:=hts.bel;have sr:=hb.size;have ht1':=ht1 wr (by omega) (by omega) hb;have HT2:Hid _:=ht2;have HTS:Hid (TS _ _ _ _ _ _ _ _ _ _):=hts;have HD:Hid _:=hd1;(have k1:(k:Int)+1<(n:Int):=by omega);clear ht1 ht2 hts hb hd1;(go_wp2_with fail);refine ht1'.mono ?_;rintro e w3 ⟨rfl,hb3⟩;have hts3:=HTS.out.below hb3;have ht2':=HT2.out w3 (by omega) (by omega) hts3.bel;have HTS3:Hid (TS _ _ _ _ _ _ _ _ _ _):=hts3;have s3:=hts3.bel.size;clear ht1' hb3 hts3;(go_wp2_with fail);refine ht2'.mono ?_;rintro e w4 ⟨rfl,hb4⟩;have hts4:=HTS3.out.below hb4;have s4:=hts4.bel.size;have HTS4:Hid (TS _ _ _ _ _ _ _ _ _ _):=hts4;obtain⟨gl4,cL⟩:=CU hts4.rl A eA1;obtain⟨gf4,cF⟩:=CU hts4.rf A (by have:=HSM.out;omega);have cW:=hts4.wrd.cell (i:=T) (by have:=HZL.out;omega);have gw4:=hts4.wrd.lt;rw[show AI AW lv A=lv.getD A 0 from rfl] at cL;rw[show AI AW fr A=fr.getD A 0 from rfl] at cF;(have ew:∀wX,Calls Tryz.prog 139 #[.int .i64 (lv.getD A 0),.agg #[.int .i64 1,.int .i64 ((k:Int)+1),.int .i64 0]] wX fun e w'=>e=.returned (.int .u64 (Am (lv.getD A 0) 1 ((k:Int)+1) 0))/\Below wX.heap.size wX w':=fun wX=>BW _ _ _ _ wX);have n1:=hts4.n1;have n2:=hts4.n2;have n3:=hts4.n3;rw[show ((k+1:Nat):Int)=(k:Int)+1 from rfl] at HD;generalize Am (lv.getD A 0) 1 ((k:Int)+1) 0=E at *;generalize lv.getD A 0=LA at *;generalize fr.getD A 0=FA at *;generalize zs.getD T 0=ZA at *;(have A1:(0:Int)<=(A:Int):=by omega);(have A2:(A:Int)<(lv.length:Int):=by omega);(have A3:(A:Int)<(fr.length:Int):=by have:=HSM.out;omega);(have T1:(0:Int)<=(T:Int):=by omega);(have T2:(T:Int)<(N:Int):=by omega);have eT1:=eT.1;(have T3:T<zs.length:=by have:=HZL.out;omega);(have F3:fr.length<=100:=by have:=HSM.out;omega);clear ht2' hb4 hts4 eT;by_cases h3:LA<3
   ·(have h3':decide (LA<3)=true:=by simpa using h3);by_cases hz:ZA=0
    ·rw[hz] at cW;have HDT2:Hid (Kr cs S0 (k+1)=⟨zs.set T E,lv++[LA+1],fr++[(k:Int)+1],P+2⟩):=by
      show Kr cs S0 (k+1)=_;rw[HSU.out,HD.out,if_pos ⟨h3,hz⟩]
     clear hz HD HSU;(go_wp2_with fail);refine(ew w4).mono ?_;rintro e w5 ⟨rfl,hb5⟩;have hts5:=HTS4.out.below hb5;have hts6:=hts5.put (i:=T) (v:=E) T3;have s5:=hts5.bel.size;obtain⟨gl5,cL5⟩:=CU hts5.rl A eA1;rw[show AI AW lv A=LA from by simpa using (Option.some.inj (((hb5.cell (p:=⟨gl,A,none⟩) gl4).trans cL).symm.trans cL5)).symm] at cL5;have hfz:=World.rowIs.frozen hts5.wrd T;have hold:=hts5.wrd.cell (i:=T) T3;generalize zs.getD T 0=Zo at hold;have HTS6:Hid (TS _ _ _ _ _ _ _ _ _ _):=hts6;have n1':=Ne.symm n1;have n2':=Ne.symm n2;have gw5:=hts5.wrd.lt;clear hb5 hts5 hts6 cL cF cW;(go_wp2_with (at_builtin;refine wpList_append_lies _ rfl (.tmp 80) (.tmp 86) 91 rfl wb.heap.size 3 i0 _ 1 8 Tryz.underlying91 hi hz0 hz1 hz2 rfl (by omega) _ _ _ rfl (World.ownsRow.alloc HTS6.out.rl _) ⟨_,0,none⟩ 1 1 [.int .i64 (LA+1)] rfl rfl ?c1 ?c2 (by omega) ?c3 ?c4 ?c5 _ rfl ?_));case c1 =>
      have h:=heap_alloc_new (w5.setCell ⟨w2.heap.size,T,none⟩ (.int .u64 E)) (.cells #[.int .i64 (LA+1)] 3);rw[World.size_setCell] at h;exact World.news_of_block h
     (case c2=>intro u hu;simp at hu;rcases hu with rfl;rfl);(case c3=>unfold maxLen;omega);(case c4=>omega);(case c5=>simp;omega);intro g7 c7 w7 hown hgrow hat hlt3;have hts7:=HTS6.out.pushL (x:=LA+1) hown hgrow (hat.imp id (fun h=>by rw[h];simp));have HTS7:Hid (TS _ _ _ _ _ _ _ _ _ _):=hts7;have s7:=hts7.bel.size;clear hown hgrow hat hlt3 hts7 HTS6;(go_wp2_with (at_builtin;refine wpList_append_lies _ rfl (.tmp 88) (.tmp 90) 91 rfl wb.heap.size 3 i0 _ 1 8 Tryz.underlying91 hi hz0 hz1 hz2 rfl (by omega) _ _ _ rfl (World.ownsRow.alloc HTS7.out.rf _) ⟨_,0,none⟩ 1 1 [.int .i64 ((k:Int)+1)] rfl rfl ?c1 ?c2 (by omega) ?c3 ?c4 ?c5 _ rfl ?_));(case c1=>exact World.news_of_block (heap_alloc_new _ (.cells #[.int .i64 ((k:Int)+1)] 3)));(case c2=>intro u hu;simp at hu;rcases hu with rfl;rfl);(case c3=>unfold maxLen;omega);(case c4=>omega);(case c5=>simp;omega);intro g8 c8 w8 hown hgrow hat hlt3;have hts8:=HTS7.out.pushF (x:=(k:Int)+1) hown hgrow (hat.imp id (fun h=>by rw[h];simp));have HTS8:Hid (TS _ _ _ _ _ _ _ _ _ _):=hts8;clear hown hgrow hat hlt3 hts8 HTS7;(go_wp2_with fail);go_roundw;case rel =>
      refine⟨k+1,g7,c7,g8,c8,by omega,by go_num,?_,?_,?_,?_⟩
      ·rw[HDT2.out];congr 1
      ·rw[HDT2.out];simp
      ·rw[HDT2.out];simp
      ·rw[HDT2.out];exact HTS8.out
     case measure=>simp[intOf];omega
    ·(have hz':(ZA==0)=false:=by simpa using hz);have HDT2:Hid (Kr cs S0 (k+1)=⟨zs,lv,fr,P+2⟩):=by
      show Kr cs S0 (k+1)=_;rw[HSU.out,HD.out,if_neg (by simp[hz])]
     clear HD HSU;(go_wp2_with fail);go_roundw;case rel =>
      refine⟨k+1,gl,cl,gf,cf,by omega,by go_num,?_,?_,?_,?_⟩
      ·rw[HDT2.out];congr 1
      ·rw[HDT2.out]
      ·rw[HDT2.out]
      ·rw[HDT2.out];exact HTS4.out
     case measure=>simp[intOf];omega
   ·(have h3':decide (LA<3)=false:=by simpa using h3);have HDT2:Hid (Kr cs S0 (k+1)=⟨zs,lv,fr,P+2⟩):=by
     show Kr cs S0 (k+1)=_;rw[HSU.out,HD.out,if_neg (by simp;omega)]
    clear HD HSU;(go_wp2_with fail);go_roundw;case rel =>
     refine⟨k+1,gl,cl,gf,cf,by omega,by go_num,?_,?_,?_,?_⟩
     ·rw[HDT2.out];congr 1
     ·rw[HDT2.out]
     ·rw[HDT2.out]
     ·rw[HDT2.out];exact HTS4.out
    case measure=>simp[intOf];omega
  ·(have e:k+1=n:=by omega);have HS1:Hid (S1=⟨zs,lv,fr,P⟩):=HZK.out e;have HE0:Hid (NJ N (P+1) (zs,P)):=⟨HZL.out,HOK.out.wrd,Nat.le_succ _⟩;(have hfl:fr.length<=100:=by have:=HSM.out;omega);have HKN:Hid (k+1=n):=e;(have k1:¬(k:Int)+1<(n:Int):=by omega);have HTS:Hid (TS _ _ _ _ _ _ _ _ _ _):=hts;have HLV:Hid (∀i,i<lv.length->1<=lv.getD i 0/\lv.getD i 0<=3):=HOK.out.lev;have HFR:Hid (∀i,i<lv.length->0<=fr.getD i 0/\fr.getD i 0<=k):=HOK.out.frm;clear ht1 ht2 hts hd1 eB eT hlA hfA HSU HOK HZK HALL e;(go_wp2_with fail);(go_loopw [1,15] (fun pv iv wr=>∃i:Nat,i<=fr.length/\iv=.int .i64 (i:Int)/\pv=.int .i64 ((TC cs lv fr (zs,P) i).2:Int)/\TS wb wr w2.heap.size gl cl gf cf (TC cs lv fr (zs,P) i).1 lv fr) (fun _ iv _=>fr.length-(intOf iv).toNat));(case atStart=>exact⟨0,Nat.zero_le _,rfl,rfl,HTS.out⟩);case round =>
    obtain⟨i,hi5,rfl,rfl,hts⟩:=hrel;have hei:=HE0.out.c (cs:=cs) lv fr HC.out i (by omega);have HSC:Hid (TC cs lv fr (zs,P) (i+1)=T9 cs (lv.getD i 0) (fr.getD i 0) (TC cs lv fr (zs,P) i) 5):=A0 rfl;(have HFI:Hid (i=fr.length->RT=TC cs lv fr (zs,P) i):=fun e=>by rw[HDT.out,HS1.out,e]);generalize TC cs lv fr (zs,P) i=C at *;by_cases hlt2:i<fr.length
    ·have hLi:=HLV.out i (by have:=HSM.out;omega);have hFi:=HFR.out i (by have:=HSM.out;omega);(have I1:(i:Int)<(fr.length:Int):=by omega);(have I2:(i:Int)<(lv.length:Int):=by have:=HSM.out;omega);(have I0:(0:Int)<=(i:Int):=by omega);have HTSo:Hid (TS _ _ _ _ _ _ _ _ _ _):=hts;have HEI:Hid (NJ _ _ _):=hei;have HLe:Hid (AI AW lv i=lv.getD i 0):=rfl;have HFe:Hid (AI AW fr i=fr.getD i 0):=rfl;generalize lv.getD i 0=L at *;generalize fr.getD i 0=F at *;clear hts hei HFI;(go_wp2_with fail);(go_loopw [1,16] (fun pv kv wr=>∃q:Nat,q<=5/\kv=.int .i64 (q:Int)/\pv=.int .i64 ((T9 cs L F C q).2:Int)/\TS wb wr w2.heap.size gl cl gf cf (T9 cs L F C q).1 lv fr) (fun _ kv _=>5-(intOf kv).toNat));(case atStart=>exact⟨0,Nat.zero_le _,rfl,rfl,HTSo.out⟩);case round =>
      obtain⟨q,hq5,rfl,rfl,hts⟩:=hrel;have heq:=HEI.out.b (cs:=cs) L F HC.out q (by omega);have HSB:Hid (T9 cs L F C (q+1)=(GL cs F q (T9 cs L F C q).2 (Jy cs L F (T9 cs L F C q)).1,(Jy cs L F (T9 cs L F C q)).2)):=A0 rfl;(have HFQ:Hid (q=5->TC cs lv fr (zs,P) (i+1)=T9 cs L F C q):=fun e=>by rw[HSC.out,e]);generalize T9 cs L F C q=D at *;obtain⟨zq,Pq⟩:=D;have HZQ:Hid (zq.length=N):=heq.len;have hpq:Pq<=P+1+10*i+2*q:=heq.pl;dsimp only at *;by_cases hlt3:q<5
      ·have hb:=hts.bel;have sr:=hb.size;have ht1:=HTK.out Pq 16 wr (by omega) (by omega) hb;have hA:=Bz cs Pq 16 (by omega) HC.out (by omega);(have hTT:F*16+Az cs Pq 16=(Jx cs F Pq:Int)/\Jx cs F Pq<16*k+16:=by unfold Jx;omega);have HDA:Hid (Jy cs L F (zq,Pq)=if 1<L/\zq.getD (Jx cs F Pq) 0=0 then (zq.set (Jx cs F Pq) (Hn L (Az cs (Pq+1) 4096)),Pq+2) else (zq,Pq+1)):=A0 rfl;(have HDB:Hid (∀zz,GL cs F q Pq zz=if q=4/\zz.getD (Jx cs F Pq) 0=0/\Az cs Pq 16%2=0 then zz.set (Jx cs F Pq) (Az cs Pq 16*4) else zz):=fun zz=>rfl);have ht2:=HTK.out (Pq+1) 4096;rw[show ((Pq+1:Nat):Int)=(Pq:Int)+1 from rfl] at ht2;have hBv:=Bz cs (Pq+1) 4096 (by omega) HC.out (by omega);generalize Az cs (Pq+1) 4096=Bv at *;generalize Az cs Pq 16=A at *;generalize Jx cs F Pq=T at *;obtain⟨eT,eTl⟩:=hTT;(have T1:(0:Int)<=(T:Int):=by omega);(have T2:(T:Int)<(N:Int):=by have:=HKN.out;omega);(have T3:T<zq.length:=by have:=HZQ.out;have:=HKN.out;omega);(have q5:(q:Int)<5:=by omega);(have W1:IntKind.u64.wrap A=A:=by rw[IntKind.wrap_u64];omega);(have W2:IntKind.u64.wrap (A*4)=A*4:=by rw[IntKind.wrap_u64];omega);have M2:A.tmod 2=A%2:=Int.tmod_eq_emod_of_nonneg (by omega);have M7:Bv.tmod 7=Bv%7:=Int.tmod_eq_emod_of_nonneg (by omega);have HTS2:Hid (TS _ _ _ _ _ _ _ _ _ _):=hts;have HT2:Hid _:=ht2;clear hts hb heq ht2 HFQ;(go_wp2_with fail);refine ht1.mono ?_;rintro e w4 ⟨rfl,hb4⟩;have hts4:=HTS2.out.below hb4;have s4:=hts4.bel.size;obtain⟨gl4,cL⟩:=CU hts4.rl i (by have:=HSM.out;omega);obtain⟨gf4,cF⟩:=CU hts4.rf i (by omega);rw[HLe.out] at cL;rw[HFe.out] at cF;have cW:=hts4.wrd.cell (i:=T) T3;have gw4:=hts4.wrd.lt;have hfz:=World.rowIs.frozen hts4.wrd T;have n1:=hts4.n1;have n2:=hts4.n2;have n1b:=Ne.symm n1;have n2b:=Ne.symm n2;have HTS4:Hid (TS _ _ _ _ _ _ _ _ _ _):=hts4;(obtain⟨ZQ,hZQ⟩:∃ZQ,zq.getD T 0=ZQ:=⟨_,rfl⟩);rw[hZQ] at cW;rw[hZQ] at HDA;have HZE:Hid (zq.getD T 0=ZQ):=hZQ;clear hZQ;clear ht1 hb4 hts4;by_cases hL:1<L
       ·(have hLb:decide (1<L)=true:=by simpa using hL);by_cases hz:ZQ=0
        ·rw[hz] at cW;have HD2a:Hid (Jy cs L F (zq,Pq)=(zq.set T (Hn L Bv),Pq+2)):=A0 (by rw[HDA.out,if_pos ⟨hL,hz⟩]);have ht2:=HT2.out w4 (by omega) (by omega) HTS4.out.bel;have HCELL:Hid (w4.cell? ⟨gl,i,none⟩=some (.int .i64 L)/\gl<w4.heap.size):=A0 ⟨cL,gl4⟩;clear HT2 hz;(go_wp2_with fail);refine ht2.mono ?_;rintro e w5 ⟨rfl,hb5⟩;have hts5:=HTS4.out.below hb5;have cL5:=(hb5.cell (p:=⟨gl,i,none⟩) gl4).trans cL;have s5:=hb5.size;have HTS5:Hid (TS _ _ _ _ _ _ _ _ _ _):=hts5;clear ht2 hts5 cL cF cW hfz;by_cases hl2:L=2
         ·(have hl2b:(L==2)=true:=by simpa using hl2);have HDW:Hid (Hn L Bv=Am 2 2 (Bv*16) (Bv%7+1)):=A0 (by unfold Hn;rw[if_pos hl2]);(have ew:∀wX,Calls Tryz.prog 139 #[.int .i64 2,.agg #[.int .i64 2,.int .i64 (Bv*16),.int .i64 (Bv%7+1)]] wX fun e w'=>e=.returned (.int .u64 (Am 2 2 (Bv*16) (Bv%7+1)))/\Below wX.heap.size wX w':=fun wX=>BW _ _ _ _ wX);have HD2:Hid (Jy cs L F (zq,Pq)=(zq.set T (Am 2 2 (Bv*16) (Bv%7+1)),Pq+2)):=A0 (by rw[HD2a.out,HDW.out]);generalize Am 2 2 (Bv*16) (Bv%7+1)=E at *;clear HDW HD2a HDA;(go_wp2_with fail);refine(ew w5).mono ?_;rintro e w6 ⟨rfl,hb6⟩;have hts6:=HTS5.out.below hb6;have hold:=hts6.wrd.cell (i:=T) T3;have hfz:=World.rowIs.frozen hts6.wrd T;have gw6:=hts6.wrd.lt;generalize zq.getD T 0=Zo at hold;have HTS7:Hid (TS _ _ _ _ _ _ _ _ _ _):=A0 (hts6.put (i:=T) (v:=E) T3);clear hb6 hts6 ew cL5 hb5;by_cases hk4:q=4
          ·(have hk4p:(q:Int)=4:=by omega);by_cases hz2:E=0
           ·by_cases ha2:A%2=0
            ·have HV:Hid (q=4/\(zq.set T E).getD T 0=0/\A%2=0):=A0 ⟨hk4,by first|(rw[HZE.out];exact hz2)|(rw[DG,if_pos ⟨rfl,T3⟩];exact hz2),ha2⟩;have HTZ:Hid (TS _ _ _ _ _ _ _ _ _ _):=A0 (HTS7.out.put (i:=T) (v:=A*4) (by first|exact T3|(rw[List.length_set];exact T3)));subst hk4;subst hz2;(go_wp2_with fail);go_roundw;case rel =>
              refine⟨4+1,by omega,by go_num,?_,?_⟩
              ·rw[HSB.out,HD2.out];first|rfl|congr 1
              ·rw[HSB.out,HD2.out];show TS _ _ _ _ _ _ _ (GL cs F 4 Pq _) _ _;rw[HDB.out,if_pos HV.out];exact HTZ.out
             case measure=>first|(simp[intOf];done)|(simp[intOf];omega)
            ·(have ha2b:(A%2==0)=false:=by simpa using ha2);have HV:Hid (¬(q=4/\(zq.set T E).getD T 0=0/\A%2=0)):=A0 (fun h=>ha2 h.2.2);subst hk4;subst hz2;(go_wp2_with fail);go_roundw;case rel =>
              refine⟨4+1,by omega,by go_num,?_,?_⟩
              ·rw[HSB.out,HD2.out];first|rfl|congr 1
              ·rw[HSB.out,HD2.out];show TS _ _ _ _ _ _ _ (GL cs F 4 Pq _) _ _;rw[HDB.out,if_neg HV.out];exact HTS7.out
             case measure=>first|(simp[intOf];done)|(simp[intOf];omega)
           ·(have hz2b:(E==0)=false:=by simpa using hz2);have HV:Hid (¬(q=4/\(zq.set T E).getD T 0=0/\A%2=0)):=A0 (fun h=>hz2 (by have h2:=h.2.1;first|(rw[HZE.out] at h2;exact h2)|(rw[DG,if_pos ⟨rfl,T3⟩] at h2;exact h2)));subst hk4;(go_wp2_with fail);go_roundw;case rel =>
             refine⟨4+1,by omega,by go_num,?_,?_⟩
             ·rw[HSB.out,HD2.out];first|rfl|congr 1
             ·rw[HSB.out,HD2.out];show TS _ _ _ _ _ _ _ (GL cs F 4 Pq _) _ _;rw[HDB.out,if_neg HV.out];exact HTS7.out
            case measure=>first|(simp[intOf];done)|(simp[intOf];omega)
          ·(have hk4p:¬(q:Int)=4:=by omega);(have hk4b:((q:Int)==4)=false:=by simpa using hk4p);have HV:Hid (¬(q=4/\(zq.set T E).getD T 0=0/\A%2=0)):=A0 (fun h=>hk4 h.1);(go_wp2_with fail);go_roundw;case rel =>
            refine⟨q+1,by omega,by go_num,?_,?_⟩
            ·rw[HSB.out,HD2.out];first|rfl|congr 1
            ·rw[HSB.out,HD2.out];show TS _ _ _ _ _ _ _ (GL cs F q Pq _) _ _;rw[HDB.out,if_neg HV.out];exact HTS7.out
           case measure=>first|(simp[intOf];done)|(simp[intOf];omega)
         ·(have hl2b:(L==2)=false:=by simpa using hl2);have HDW:Hid (Hn L Bv=Am 3 3 (Bv*3) (Bv%7+1)):=A0 (by unfold Hn;rw[if_neg hl2]);(have ew:∀wX,Calls Tryz.prog 139 #[.int .i64 3,.agg #[.int .i64 3,.int .i64 (Bv*3),.int .i64 (Bv%7+1)]] wX fun e w'=>e=.returned (.int .u64 (Am 3 3 (Bv*3) (Bv%7+1)))/\Below wX.heap.size wX w':=fun wX=>BW _ _ _ _ wX);have HD2:Hid (Jy cs L F (zq,Pq)=(zq.set T (Am 3 3 (Bv*3) (Bv%7+1)),Pq+2)):=A0 (by rw[HD2a.out,HDW.out]);generalize Am 3 3 (Bv*3) (Bv%7+1)=E at *;clear HDW HD2a HDA;(go_wp2_with fail);refine(ew w5).mono ?_;rintro e w6 ⟨rfl,hb6⟩;have hts6:=HTS5.out.below hb6;have hold:=hts6.wrd.cell (i:=T) T3;have hfz:=World.rowIs.frozen hts6.wrd T;have gw6:=hts6.wrd.lt;generalize zq.getD T 0=Zo at hold;have HTS7:Hid (TS _ _ _ _ _ _ _ _ _ _):=A0 (hts6.put (i:=T) (v:=E) T3);clear hb6 hts6 ew cL5 hb5;by_cases hk4:q=4
          ·(have hk4p:(q:Int)=4:=by omega);by_cases hz2:E=0
           ·by_cases ha2:A%2=0
            ·have HV:Hid (q=4/\(zq.set T E).getD T 0=0/\A%2=0):=A0 ⟨hk4,by first|(rw[HZE.out];exact hz2)|(rw[DG,if_pos ⟨rfl,T3⟩];exact hz2),ha2⟩;have HTZ:Hid (TS _ _ _ _ _ _ _ _ _ _):=A0 (HTS7.out.put (i:=T) (v:=A*4) (by first|exact T3|(rw[List.length_set];exact T3)));subst hk4;subst hz2;(go_wp2_with fail);go_roundw;case rel =>
              refine⟨4+1,by omega,by go_num,?_,?_⟩
              ·rw[HSB.out,HD2.out];first|rfl|congr 1
              ·rw[HSB.out,HD2.out];show TS _ _ _ _ _ _ _ (GL cs F 4 Pq _) _ _;rw[HDB.out,if_pos HV.out];exact HTZ.out
             case measure=>first|(simp[intOf];done)|(simp[intOf];omega)
            ·(have ha2b:(A%2==0)=false:=by simpa using ha2);have HV:Hid (¬(q=4/\(zq.set T E).getD T 0=0/\A%2=0)):=A0 (fun h=>ha2 h.2.2);subst hk4;subst hz2;(go_wp2_with fail);go_roundw;case rel =>
              refine⟨4+1,by omega,by go_num,?_,?_⟩
              ·rw[HSB.out,HD2.out];first|rfl|congr 1
              ·rw[HSB.out,HD2.out];show TS _ _ _ _ _ _ _ (GL cs F 4 Pq _) _ _;rw[HDB.out,if_neg HV.out];exact HTS7.out
             case measure=>first|(simp[intOf];done)|(simp[intOf];omega)
           ·(have hz2b:(E==0)=false:=by simpa using hz2);have HV:Hid (¬(q=4/\(zq.set T E).getD T 0=0/\A%2=0)):=A0 (fun h=>hz2 (by have h2:=h.2.1;first|(rw[HZE.out] at h2;exact h2)|(rw[DG,if_pos ⟨rfl,T3⟩] at h2;exact h2)));subst hk4;(go_wp2_with fail);go_roundw;case rel =>
             refine⟨4+1,by omega,by go_num,?_,?_⟩
             ·rw[HSB.out,HD2.out];first|rfl|congr 1
             ·rw[HSB.out,HD2.out];show TS _ _ _ _ _ _ _ (GL cs F 4 Pq _) _ _;rw[HDB.out,if_neg HV.out];exact HTS7.out
            case measure=>first|(simp[intOf];done)|(simp[intOf];omega)
          ·(have hk4p:¬(q:Int)=4:=by omega);(have hk4b:((q:Int)==4)=false:=by simpa using hk4p);have HV:Hid (¬(q=4/\(zq.set T E).getD T 0=0/\A%2=0)):=A0 (fun h=>hk4 h.1);(go_wp2_with fail);go_roundw;case rel =>
            refine⟨q+1,by omega,by go_num,?_,?_⟩
            ·rw[HSB.out,HD2.out];first|rfl|congr 1
            ·rw[HSB.out,HD2.out];show TS _ _ _ _ _ _ _ (GL cs F q Pq _) _ _;rw[HDB.out,if_neg HV.out];exact HTS7.out
           case measure=>first|(simp[intOf];done)|(simp[intOf];omega)
        ·(have hzb:(ZQ==0)=false:=by simpa using hz);have HD2:Hid (Jy cs L F (zq,Pq)=(zq,Pq+1)):=A0 (by rw[HDA.out,if_neg (by simp[hz])]);clear HT2 HDA;by_cases hk4:q=4
         ·(have hk4p:(q:Int)=4:=by omega);by_cases hz2:ZQ=0
          ·exact absurd hz2 hz
          ·(have hz2b:(ZQ==0)=false:=by simpa using hz2);have HV:Hid (¬(q=4/\(zq).getD T 0=0/\A%2=0)):=A0 (fun h=>hz2 (by have h2:=h.2.1;first|(rw[HZE.out] at h2;exact h2)|(rw[DG,if_pos ⟨rfl,T3⟩] at h2;exact h2)));subst hk4;(go_wp2_with fail);go_roundw;case rel =>
            refine⟨4+1,by omega,by go_num,?_,?_⟩
            ·rw[HSB.out,HD2.out];first|rfl|congr 1
            ·rw[HSB.out,HD2.out];show TS _ _ _ _ _ _ _ (GL cs F 4 Pq _) _ _;rw[HDB.out,if_neg HV.out];exact HTS4.out
           case measure=>first|(simp[intOf];done)|(simp[intOf];omega)
         ·(have hk4p:¬(q:Int)=4:=by omega);(have hk4b:((q:Int)==4)=false:=by simpa using hk4p);have HV:Hid (¬(q=4/\(zq).getD T 0=0/\A%2=0)):=A0 (fun h=>hk4 h.1);(go_wp2_with fail);go_roundw;case rel =>
           refine⟨q+1,by omega,by go_num,?_,?_⟩
           ·rw[HSB.out,HD2.out];first|rfl|congr 1
           ·rw[HSB.out,HD2.out];show TS _ _ _ _ _ _ _ (GL cs F q Pq _) _ _;rw[HDB.out,if_neg HV.out];exact HTS4.out
          case measure=>first|(simp[intOf];done)|(simp[intOf];omega)
       ·(have hLb:decide (1<L)=false:=by simpa using hL);have HD2:Hid (Jy cs L F (zq,Pq)=(zq,Pq+1)):=A0 (by rw[HDA.out,if_neg (by simp[hL])]);clear HT2 HDA;by_cases hk4:q=4
        ·(have hk4p:(q:Int)=4:=by omega);by_cases hz2:ZQ=0
         ·by_cases ha2:A%2=0
          ·have HV:Hid (q=4/\(zq).getD T 0=0/\A%2=0):=A0 ⟨hk4,by first|(rw[HZE.out];exact hz2)|(rw[DG,if_pos ⟨rfl,T3⟩];exact hz2),ha2⟩;have HTZ:Hid (TS _ _ _ _ _ _ _ _ _ _):=A0 (HTS4.out.put (i:=T) (v:=A*4) (by first|exact T3|(rw[List.length_set];exact T3)));subst hk4;rw[hz2] at cW;(go_wp2_with fail);go_roundw;case rel =>
            refine⟨4+1,by omega,by go_num,?_,?_⟩
            ·rw[HSB.out,HD2.out];first|rfl|congr 1
            ·rw[HSB.out,HD2.out];show TS _ _ _ _ _ _ _ (GL cs F 4 Pq _) _ _;rw[HDB.out,if_pos HV.out];exact HTZ.out
           case measure=>first|(simp[intOf];done)|(simp[intOf];omega)
          ·(have ha2b:(A%2==0)=false:=by simpa using ha2);have HV:Hid (¬(q=4/\(zq).getD T 0=0/\A%2=0)):=A0 (fun h=>ha2 h.2.2);subst hk4;rw[hz2] at cW;(go_wp2_with fail);go_roundw;case rel =>
            refine⟨4+1,by omega,by go_num,?_,?_⟩
            ·rw[HSB.out,HD2.out];first|rfl|congr 1
            ·rw[HSB.out,HD2.out];show TS _ _ _ _ _ _ _ (GL cs F 4 Pq _) _ _;rw[HDB.out,if_neg HV.out];exact HTS4.out
           case measure=>first|(simp[intOf];done)|(simp[intOf];omega)
         ·(have hz2b:(ZQ==0)=false:=by simpa using hz2);have HV:Hid (¬(q=4/\(zq).getD T 0=0/\A%2=0)):=A0 (fun h=>hz2 (by have h2:=h.2.1;first|(rw[HZE.out] at h2;exact h2)|(rw[DG,if_pos ⟨rfl,T3⟩] at h2;exact h2)));subst hk4;(go_wp2_with fail);go_roundw;case rel =>
           refine⟨4+1,by omega,by go_num,?_,?_⟩
           ·rw[HSB.out,HD2.out];first|rfl|congr 1
           ·rw[HSB.out,HD2.out];show TS _ _ _ _ _ _ _ (GL cs F 4 Pq _) _ _;rw[HDB.out,if_neg HV.out];exact HTS4.out
          case measure=>first|(simp[intOf];done)|(simp[intOf];omega)
        ·(have hk4p:¬(q:Int)=4:=by omega);(have hk4b:((q:Int)==4)=false:=by simpa using hk4p);have HV:Hid (¬(q=4/\(zq).getD T 0=0/\A%2=0)):=A0 (fun h=>hk4 h.1);(go_wp2_with fail);go_roundw;case rel =>
          refine⟨q+1,by omega,by go_num,?_,?_⟩
          ·rw[HSB.out,HD2.out];first|rfl|congr 1
          ·rw[HSB.out,HD2.out];show TS _ _ _ _ _ _ _ (GL cs F q Pq _) _ _;rw[HDB.out,if_neg HV.out];exact HTS4.out
         case measure=>first|(simp[intOf];done)|(simp[intOf];omega)
      ·(have e5:q=5:=by omega);have HTS2:Hid (TS _ _ _ _ _ _ _ _ _ _):=hts;have HQQ:Hid (TC cs lv fr (zs,P) (i+1)=(zq,Pq)):=HFQ.out e5;subst e5;clear hts heq HFQ HSB;(go_wp2_with fail);go_roundw;case rel =>
        refine⟨i+1,by omega,by go_num,?_,?_⟩
        ·rw[HQQ.out]
        ·rw[HQQ.out];exact HTS2.out
       case measure=>first|(simp[intOf];done)|(simp[intOf];omega)
    ·(have ei:i=fr.length:=by omega);have HR:Hid (RT=C):=HFI.out ei;have HTSo:Hid (TS _ _ _ _ _ _ _ _ _ _):=hts;have hb:=hts.bel;have qr:=(hb.cell (p:=⟨w.heap.size,0,none⟩) (by simp;omega)).trans qb;have fr2:=(hb.frozen (p:=⟨w.heap.size,0,none⟩) (by simp;omega)).trans fb;have HLC:Hid (C.1.length=N):=hei.len;have HB:Hid (Below wb.heap.size wb wr):=hb;have sr:=hb.size;(have I1:¬(i:Int)<(fr.length:Int):=by omega);clear hts hb hei HFI HSC HDT ei;(go_wp2_with fail);rw[HR.out,HLC.out];refine bodyPost_ret (v:=.tuple #[.agg #[.slice (some ⟨w2.heap.size,0,none⟩) N N],.int .i64 (C.2:Int)]) (by simp[results,Tryz.results68,go_sem,qr]) rfl ⟨w2.heap.size,rfl,by omega,?_,?_⟩
     ·exact World.rowIs.setOther HTSo.out.wrd (by simp<;>omega) _
     ·exact HBB.out.trans ((HB.out.mono (by omega)).setCell (by simp<;>omega) _)
end Go.Proofs.YtnmhkgmmpkjjeaaGreat
