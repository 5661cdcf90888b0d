import Derived.Test.YtnmhkgmmpkjjeabGreatE09
namespace Go.Proofs.YtnmhkgmmpkjjeabGreat
open ChangeShapes WideShapes ChangeAt RowKit Proofs.Tryz
set_option linter.all false
set_option maxRecDepth 100000
set_option maxHeartbeats 4000000
theorem KT(x:Int):AZ 3 x≠1:=by
 unfold AZ;rw[if_neg (by omega)];by_cases h1:x%2=0
 ·rw[if_pos h1];omega
 ·rw[if_neg h1];by_cases h2:x/32%128≠0\/x/268435456≠0
  ·rw[if_pos h2];omega
  ·rw[if_neg h2,if_neg (by omega),if_neg (by omega)];by_cases h3:(3:Int)=3/\x/2%2=1/\0<x/4%8
   ·rw[if_pos h3];omega
   ·rw[if_neg h3];omega
theorem Fk(g:Nat)(zs:List Int)(c:Nat)(hz:EG zs)(hcc:zs.length<=c)(B:Nat)(hgB:g<B):∀(d:Nat),d<=2->∀(p:P3) (v:Value) (qs:List P3) (w:World),NQ zs d p->Bj w g zs->B<=w.heap.size->qs.length<=100000-10000*d->BK w B v qs ->
  Calls prog 161 #[v,.agg #[.slice (some ⟨g,0,none⟩) zs.length c],.agg #[.int .i64 p.fr,.int .i64 p.lv,.int .i64 p.pg]] w fun e w'=>Ms w B v (qs++Bv zs (BS zs.length) d p) e w'
 | 0,_,p,v,qs,w,hp,hg,hB,hq,hv=>by
  have hm:=BP zs.length hz.n0;have hle:=Cd zs.length;obtain⟨a,b,c1,e,f,g1⟩:=hp;have hl:p.lv=3:=by omega
  exact Lk g zs c p hl B hgB 100000 (by omega) v qs (by omega) w hg hB hv
 | d+1,hd,p,v,qs,w,hp,hg,hB,hq,hv=>by
  have hm:=BP zs.length hz.n0;have hle:=Cd zs.length;have hp':=hp;obtain⟨a,b,c1,e,f,g1⟩:=hp';refine Ls g zs c p p.fr.toNat (by omega) (by omega) (by omega) hcc b (by omega) f g1 (Bv zs (BS zs.length) d) ?_ (BS zs.length) hm.1
   (fun i hi w=>EF p.lv (Af zs p.fr i) (hz.rng _).1 (hz.rng _).2 w) B hgB (100000-10000*(d+1)) (by omega) ?_ v qs hq w hg hB hv
  ·intro q;have:=Co zs (BS zs.length) d q;have:NX d<=17:=by
    rcases(show d=0\/d=1 by omega) with rfl|rfl<;>decide
   omega
  ·intro i w v qs hi hl hg hB hq hv;exact Fk g zs c hz hcc B hgB d (by omega) (under zs p i) v qs w (FP hp i hi hl) hg hB (by omega) hv
section
attribute [local go_sem ↓] wp_at_zero wp_at_succ
theorem Is(zs:List Int)(n:Int)(ps:List P3)(i:Nat):Cl zs n ps (i+1)=(Cl zs n ps i&&(GR ps i&&IA zs n (BQ ps i))):=by
 simp[Cl,List.range_succ,List.all_append]
theorem Ey(zs:List Int)(n:Int)(ps:List P3)(i m:Nat)(hi:i<m)(h:(GR ps i&&IA zs n (BQ ps i))=false):Cl zs n ps m=false:=by
 rw[Cl,List.all_eq_false];exact⟨i,List.mem_range.2 hi,by simpa using h⟩
theorem EI(f:Nat->Bool)(j:Nat):(List.range (j+1)).all f=((List.range j).all f&&f j):=by
 simp[List.range_succ,List.all_append]
theorem Du(f:Nat->Bool)(i m:Nat)(hi:i<m)(h:f i=false):(List.range m).all f=false:=by
 rw[List.all_eq_false];exact⟨i,List.mem_range.2 hi,by simpa using h⟩
structure NI (zs:List Int) (ps:List P3):Prop where
 le:ps.length<=273
 pos:0<ps.length
 ok:∀i,i<ps.length->∃F:Nat,(BQ ps i).fr=F/\F*16+16<=zs.length
theorem GG(g:Nat)(zs:List Int)(c:Nat)(n:Int)(ps:List P3)(hn:n=BS zs.length)(hn0:BS zs.length≠0)(hlen:zs.length<=8192)(hps:NI zs ps)(hd:∀i k,i<ps.length->k<16->∀w,Calls prog 124 #[.int .i64 (BQ ps i).lv,.int .u64 (Af zs (BQ ps i).fr k)] w fun e w'=>e=.returned (.agg #[.int .i64 (AZ (BQ ps i).lv (Af zs (BQ ps i).fr k)),.int .i64 (Bz (BQ ps i).lv (Af zs (BQ ps i).fr k)),.int .i64 (Bq (BQ ps i).lv (Af zs (BQ ps i).fr k))])/\Below w.heap.size w w')(hbl:∀w,Bj w g zs->Calls prog 142 #[.agg #[.slice (some ⟨g,0,none⟩) zs.length c],.agg #[.int .i64 0,.int .i64 1,.int .i64 0]] w fun e w'=>∃a c,e=.returned (.slice a ps.length c)/\BK w' w.heap.size (.slice a ps.length c) ps/\Below w.heap.size w w')(w:World)(hg:Bj w g zs):Calls prog 114 #[.agg #[.slice (some ⟨g,0,none⟩) zs.length c]] w fun e w'=>∃a c',e=.returned (.tuple #[.slice a ps.length c',.bool (Cl zs n ps ps.length)])/\BK w' w.heap.size (.slice a ps.length c') ps/\Below w.heap.size w w':=by
 have hf:=CQ (some ⟨g,0,none⟩) zs.length c (by omega);rw[<- hn] at hf;have hn1:(n==0)=false:=by simp;omega
 have hnle:0<=n/\n<=512:=by have:=Cd zs.length;have:=BP zs.length hn0;omega
 have HNN:Hid (n=BS zs.length):=hn;have HD:Hid _:=hd;have HPS:Hid (NI _ _):=hps;have hpl:=hps.le;clear hn hn0 hd hps;go_enter func114,ntmps114
 go_wp2_with (go_at_call 86;refine(hf _).mono ?_;rintro e w1 ⟨rfl,hb1⟩;obtain⟨hc1,hf1⟩:=GN hb1)
 refine(hbl w1 ?_).mono ?_
 ·exact hg.below (((Below.refl _ _).alloc (Nat.le_refl _) _).trans (hb1.mono (by simp))) hg.lt
 rintro e w3 ⟨a3,c3,rfl,hrow,hb3⟩;obtain⟨a3',c3',hab,hform⟩:=hrow.form;simp only[Value.slice.injEq] at hab;obtain⟨gp,N,f,h1,h2,h3,h4,h5⟩:=hform HPS.out.pos;have ha3:a3=some ⟨gp,0,none⟩:=hab.1.trans h1;subst ha3;have hs1:=hb1.size;simp at hs1;have hs3:=hb3.size;have hbase:Below w.heap.size w w3:=(((Below.refl _ _).alloc (Nat.le_refl _) _).trans (hb1.mono (by simp))).trans (hb3.mono (by omega));have hg3:Bj w3 g zs:=hg.below hbase hg.lt;have hbox:w3.cell? ⟨w.heap.size,0,none⟩=some (.slice (some ⟨g,0,none⟩) zs.length c):=by
  rw[hb3.cell (by simp;omega),hb1.cell (by simp)];simp[go_sem]
 have HROW:Hid (BK w3 w.heap.size _ ps):=hrow.rebase (by omega);have HBASE:Hid (Below _ _ _):=hbase;have HG:Hid (Bj w3 g zs):=hg3;have HB:Hid (w3.cell? ⟨w.heap.size,0,none⟩=some (.slice (some ⟨g,0,none⟩) zs.length c)):=hbox;have HPR:Hid (w3.rowIs gp 172 N f/\ps.length*3<=N/\∀i,i<ps.length->f (i*3)=.int .i64 (BQ ps i).fr/\f (i*3+1)=.int .i64 (BQ ps i).lv/\f (i*3+2)=.int .i64 (BQ ps i).pg):=⟨h3,h4,h5⟩;have hsz0:w.heap.size<w3.heap.size:=by omega
 clear hc1 hf1 hb1 hb3 hrow hform hab h1 h2 h3 h4 h5 hbase hg3 hbox hf hbl hg hs1 hs3;go_wp2_with fail
 go_loopw [6] (fun iv wr=>∃i:Nat,i<=ps.length/\iv=.int .i64 i/\Cl zs n ps i=true/\Below w3.heap.size w3 wr) (fun iv _=>ps.length-(intOf iv).toNat)
 case atStart=>exact⟨0,Nat.zero_le _,rfl,rfl,Below.refl _ _⟩
 case round =>
  obtain⟨i,hi,rfl,htr,hb⟩:=hrel;by_cases hlt:i<ps.length
  ·obtain⟨hrw,hN,hpa⟩:=HPR.out;have HTR:Hid _:=htr;have HBo:Hid (Below _ _ _):=hb;(obtain⟨wo,hwo⟩:∃wo:World,wo=wr:=⟨_,rfl⟩);(have hbo:Below w3.heap.size w3 wo:=by rw[hwo];exact hb);have HBO:Hid (Below _ _ _):=hbo;have hso:=hbo.size;(have I1:(0:Int)<=(i:Int):=by omega);(have I2:(i:Int)<(ps.length:Int):=by omega);have HWO:Hid (wo=wr):=hwo;clear htr hb hbo hwo;(go_wp2_with fail);(go_loopw [7] (fun jv wr=>∃j:Nat,j<=i/\jv=.int .i64 j/\(List.range j).all (fun j=>!decide ((BQ ps i).fr=(BQ ps j).fr))=true/\Below w3.heap.size w3 wr) (fun jv _=>i-(intOf jv).toNat));(case atStart=>exact⟨0,Nat.zero_le _,rfl,rfl,HBo.out⟩);case round =>
    obtain⟨j,hj,rfl,hall,hb⟩:=hrel;by_cases hlt2:j<i
    ·have hr1:wr.rowIs gp _ N f:=hrw.of_block (hb.block gp hrw.lt);have k1:=hr1.cell (i:=i*3) (by omega);have k2:=hr1.cell (i:=j*3) (by omega);rw[(hpa i hlt).1] at k1;rw[(hpa j (by omega)).1] at k2;(have J1:(0:Int)<=(j:Int):=by omega);(have J2:(j:Int)<(ps.length:Int):=by omega);(have J3:(j:Int)<(i:Int):=by omega);have hsucc:=EI (fun j=>!decide ((BQ ps i).fr=(BQ ps j).fr)) j;by_cases heq:(BQ ps i).fr=(BQ ps j).fr
     ·have hfalse:Cl zs n ps ps.length=false:=Ey zs n ps i _ hlt (by
       rw[GR,Du _ j i hlt2 (by simp[heq]),Bool.false_and])
      rw[heq] at k1;have HFA:Hid _:=hfalse;have HBj:Hid (Below _ _ _):=hb;clear hsucc heq hfalse hall hr1 hb hrw hpa;generalize (BQ ps j).fr=A at *;(go_wp2_with fail);(go_quiet (fail));(go_wp2_with fail);(go_ret2);exact⟨some ⟨gp,0,none⟩,c3,by rw[HFA.out];rfl,HROW.out.below (AS HBj.out _),HBASE.out.trans ((AS HBj.out _).mono (by omega))⟩
     ·(have hne:((BQ ps i).fr==(BQ ps j).fr)=false:=by simpa using heq);have hstep:(List.range (j+1)).all (fun j=>!decide ((BQ ps i).fr=(BQ ps j).fr))=true:=by
       rw[hsucc,hall];simp[heq]
      have HST:Hid _:=hstep;have HBj:Hid (Below _ _ _):=hb;clear hsucc heq hall hstep hr1 hb hrw hpa;(go_wp2_with fail);(go_quiet (fail));(go_wp2_with fail);go_roundw;(case rel=>exact⟨j+1,by omega,by go_num,HST.out,AS HBj.out _⟩);case measure=>simp[intOf];omega
    ·(have e:j=i:=by omega);subst e;have hfr:GR ps j=true:=hall;have HFR:Hid _:=hfr;have HBj:Hid (Below _ _ _):=hb;clear hall hfr hb;have hsu:=Is zs n ps j;rw[HTR.out,HFR.out,Bool.true_and,Bool.true_and] at hsu;have HSU:Hid _:=hsu;clear hsu;(go_wp2_with fail);(go_loopw [8] (fun kv wr=>∃k:Nat,k<=16/\kv=.int .i64 k/\(List.range k).all (Ep zs n (BQ ps j))=true/\Below w3.heap.size w3 wr) (fun kv _=>16-(intOf kv).toNat));(case atStart=>exact⟨0,Nat.zero_le _,rfl,rfl,HBj.out⟩);case round =>
      obtain⟨k,hk,rfl,hall,hb⟩:=hrel;by_cases hlt3:k<16
      ·obtain⟨F,hF,hF2⟩:=HPS.out.ok j hlt;have hr1:wr.rowIs gp _ N f:=hrw.of_block (hb.block gp hrw.lt);have hgp:=hr1.lt;have k1:=hr1.cell (i:=j*3) (by omega);have k2:=hr1.cell (i:=j*3+1) (by omega);rw[(hpa j hlt).1] at k1;rw[(hpa j hlt).2.1] at k2;have hgr:Bj wr g zs:=HG.out.below hb HG.out.lt;have hgl:=hgr.lt;have cw:=hgr.cell (i:=F*16+k) (by omega);(have ew:zs.getD (F*16+k) 0=Af zs (BQ ps j).fr k:=by simp[Af,hF];congr 1);rw[ew] at cw;have c0:=(hb.cell (p:=⟨w.heap.size,0,none⟩) (by simpa using hsz0)).trans HB.out;have hdk:=HD.out j k hlt hlt3;have hsz:=hb.size;have hsw:=EI (Ep zs n (BQ ps j)) k
       have hfa:Ep zs n (BQ ps j) k=false->Cl zs n ps ps.length=false:=fun h=>Ey zs n ps j _ hlt (by
        rw[IA,Du _ k 16 hlt3 h,Bool.and_false])
       have hsk:Ep zs n (BQ ps j) k=!(decide (AZ (BQ ps j).lv (Af zs (BQ ps j).fr k)=4)||(decide (AZ (BQ ps j).lv (Af zs (BQ ps j).fr k)=1)&&decide (n<=Bz (BQ ps j).lv (Af zs (BQ ps j).fr k)))):=rfl;rw[hF] at k1;rw[hall,Bool.true_and] at hsw;have HSW:Hid _:=hsw;have HFA:Hid _:=hfa;have HBk:Hid (Below _ _ _):=hb;have dO:=Cp (BQ ps j).lv (Af zs (BQ ps j).fr k);clear ew hsw hfa hall hr1 hgr hb hrw hpa hF;generalize Af zs (BQ ps j).fr k=X at *;generalize AZ (BQ ps j).lv X=K at *;generalize Bz (BQ ps j).lv X=O at *;generalize Bq (BQ ps j).lv X=M at *;generalize (BQ ps j).lv=L at *;have HSK:Hid _:=hsk;clear hsk;(have L1:(0:Int)<=(F:Int)*16+(k:Int):=by omega);(have L2:(F:Int)*16+(k:Int)<(zs.length:Int):=by omega);(have W1:IntKind.i64.wrap ((F:Int)*16)=(F:Int)*16:=by rw[IntKind.wrap_i64];omega);(have W2:IntKind.i64.wrap ((F:Int)*16+(k:Int))=(F:Int)*16+(k:Int):=by rw[IntKind.wrap_i64];omega);(have T1:((F:Int)*16+(k:Int)).toNat=F*16+k:=by omega);(go_upto_region 16 with fail);(go_cut [9] (fun d9 wx=>∃D,d9=.pointer (some ⟨D,0,none⟩)/\wx.cell? ⟨D,0,none⟩=some (.int .i64 K)/\wx.cell? ⟨D,1,none⟩=some (.int .i64 O)/\Below wr.heap.size wr wx));case first =>
        have HK:Hid (∀wX,Below wr.heap.size wr wX->wX.cell? ⟨gp,j*3,none⟩=some (.int .i64 F)/\wX.cell? ⟨gp,j*3+1,none⟩=some (.int .i64 L)/\wX.cell? ⟨w.heap.size,0,none⟩=some (.slice (some ⟨g,0,none⟩) zs.length c)/\wX.cell? ⟨g,F*16+k,none⟩=some (.int .u64 X)) :=
         fun wX h=>⟨(h.cell (by simpa using hgp)).trans k1,(h.cell (by simpa using hgp)).trans k2,(h.cell (by simp;omega)).trans c0,(h.cell (by simpa using hgl)).trans cw⟩
        go_region_held3 (fun w'=>w'.cell? ⟨gp,j*3,none⟩=some (.int .i64 F)/\w'.cell? ⟨gp,j*3+1,none⟩=some (.int .i64 L)/\w'.cell? ⟨w.heap.size,0,none⟩=some (.slice (some ⟨g,0,none⟩) zs.length c)/\w'.cell? ⟨g,F*16+k,none⟩=some (.int .u64 X))
         ((refine HK.out _ ?_;repeat (first|exact Below.refl _ _|with_reducible refine Below.drew ?_|with_reducible refine Below.setCell ?_ (by first|omega|(simp<;>omega)) _|with_reducible refine Below.alloc ?_ (by first|omega|(simp<;>omega)) _|refine Below.trans ?_ (hb1.mono (by first|omega|(simp<;>omega))))))
         (first|(go_at_call 124;refine(hdk _).mono ?_;rintro e w1 ⟨rfl,hb1⟩;obtain⟨hc1,hf1⟩:=GN hb1;have hz1:=hb1.size;simp at hz1))
        all_goals
         go_wp2_with fail
         go_meet
         case rel =>
          refine⟨_,rfl,?_,?_,?_⟩
          ·simp[go_sem,hc1]
          ·simp[go_sem,hc1]
          ·repeat (first|exact Below.refl _ _|with_reducible refine Below.drew ?_|with_reducible refine Below.setCell ?_ (by first|omega|(simp<;>omega)) _|with_reducible refine Below.alloc ?_ (by first|omega|(simp<;>omega)) _|refine Below.trans ?_ (hb1.mono (by first|omega|(simp<;>omega))))
       case rest =>
        obtain⟨D,rfl,d0,d1,hbx⟩:=hcut;have hbxx:Below w3.heap.size w3 wc:=HBk.out.trans (hbx.mono hsz);have HBXX:Hid (Below _ _ _):=hbxx;clear k1 k2 c0 cw hdk W1 W2 T1 L1 L2 hbx hbxx;by_cases hK4:K=4
        ·subst hK4;have HFA2:Hid (Cl zs n ps ps.length=false):=HFA.out (by rw[HSK.out];simp);clear HFA HSW HSK;(go_wp2_with fail);(go_ret2);exact⟨some ⟨gp,0,none⟩,c3,by rw[HFA2.out];rfl,HROW.out.below HBXX.out,HBASE.out.trans (HBXX.out.mono (by omega))⟩
        ·by_cases hK1:K=1
         ·subst hK1;by_cases hO:n<=O
          ·(have hO':decide (n<=O)=true:=by simpa using hO);have HFA2:Hid (Cl zs n ps ps.length=false):=HFA.out (by rw[HSK.out];simp[hO]);clear HFA HSW HSK;(go_wp2_with fail);(go_ret2);exact⟨some ⟨gp,0,none⟩,c3,by rw[HFA2.out];rfl,HROW.out.below HBXX.out,HBASE.out.trans (HBXX.out.mono (by omega))⟩
          ·(have hO':decide (n<=O)=false:=by simpa using hO);have HST:Hid ((List.range (k+1)).all (Ep zs n (BQ ps j))=true):=by
            exact(show _=true by rw[HSW.out,HSK.out];simp[hO])
           clear HFA HSW HSK;(go_wp2_with fail);go_roundw;(case rel=>exact⟨k+1,by omega,by go_num,HST.out,HBXX.out⟩);case measure=>simp[intOf];omega
         ·(have hK4':(K==4)=false:=by simpa using hK4);(have hK1':(K==1)=false:=by simpa using hK1);have HST:Hid ((List.range (k+1)).all (Ep zs n (BQ ps j))=true):=by
           exact(show _=true by rw[HSW.out,HSK.out];simp[hK4,hK1])
          clear HFA HSW HSK;(go_wp2_with fail);go_roundw;(case rel=>exact⟨k+1,by omega,by go_num,HST.out,HBXX.out⟩);case measure=>simp[intOf];omega
      ·(have e:k=16:=by omega);subst e;(have hT:Cl zs n ps (j+1)=true:=by rw[HSU.out];exact hall);have HT:Hid _:=hT;clear hT hall;(go_wp2_with fail);go_roundw;(case rel=>exact⟨j+1,by omega,by go_num,HT.out,hb⟩);case measure=>simp[intOf];omega
  ·(have e:i=ps.length:=by omega);subst e;have HT:Hid _:=htr;clear htr;(go_wp2_with fail);(go_ret2);exact⟨some ⟨gp,0,none⟩,c3,by rw[HT.out];rfl,HROW.out.below hb,HBASE.out.trans (hb.mono (by omega))⟩
end
theorem JT(zs:List Int)(hz:EG zs):NI zs (AK zs):=by
 have hm:=BP zs.length hz.n0;refine⟨CG zs,?_,?_⟩
 ·unfold AK;rw[if_neg hz.n0];simp[Bv,Ak]
 ·intro i hi;have hmem:BQ (AK zs) i∈AK zs:=by
   unfold BQ;rw[List.getD_eq_getElem?_getD,List.getElem?_eq_getElem hi];exact List.getElem_mem hi
  have e:AK zs=Bv zs (BS zs.length) 2 ⟨0,1,0⟩:=by unfold AK;rw[if_neg hz.n0]
  rw[e] at hmem;obtain⟨d',h⟩:=FW 2 ⟨0,1,0⟩ ⟨rfl,by simp,by simp,by show (0:Int)<_;omega,by simp,by simp⟩ _ hmem;obtain⟨_,_,a,b,_,_⟩:=h;refine⟨(BQ (AK zs) i).fr.toNat,?_,?_⟩
  ·rw[e];omega
  ·rw[e];omega
theorem Jr(zs:List Int)(hz:EG zs):NQ zs 2 ⟨0,1,0⟩:=by
 have hm:=BP zs.length hz.n0;exact⟨rfl,by simp,by simp,by show (0:Int)<_;omega,by simp,by simp⟩
def DI (zs:List Int) (w:World) (e:Ending) (w':World):Prop :=
 ∃a c',e=.returned (.tuple #[.slice a (AK zs).length c',.bool (MP zs)])/\BK w' w.heap.size (.slice a (AK zs).length c') (AK zs)/\Below w.heap.size w w'
theorem DJ(g:Nat)(zs:List Int)(c:Nat)(hn:zs.length<=1048576)(hr:∀i,0<=zs.getD i 0/\zs.getD i 0<2 ^ 64)(w:World)(hg:Bj w g zs):Calls prog 114 #[.agg #[.slice (some ⟨g,0,none⟩) zs.length c]] w fun e w'=>DI zs w e w':=by
 unfold DI MP;by_cases h0:BS zs.length=0
 ·have e:AK zs=[]:=by unfold AK;rw[if_pos h0]
  rw[e];simp only[h0,decide_true,Bool.not_true,Bool.false_and];exact Gk g zs.length c hn h0 w
 ·have hz:EG zs:=⟨h0,hr⟩;have hm:=BP zs.length h0;have hle:=Cd zs.length;have e:AK zs=Bv zs (BS zs.length) 2 ⟨0,1,0⟩:=by unfold AK;rw[if_neg h0]
  simp only[h0,decide_false,Bool.not_false,Bool.true_and];refine GG g zs c (BS zs.length) (AK zs) rfl h0 (by omega) (JT zs hz) ?_ ?_ w hg
  ·intro i k hi hk w;exact DH _ _ (hr _).1 (hr _).2 w
  ·intro w hg;have:=Ed g zs c hz 2 (by omega) ⟨0,1,0⟩ w (Jr zs hz) hg;rw[<- e] at this;exact this
theorem FD(g:Nat)(zs:List Int)(c:Nat)(hz:EG zs)(hcc:zs.length<=c)(w:World)(hg:Bj w g zs):Calls prog 154 #[.agg #[.slice (some ⟨g,0,none⟩) zs.length c]] w fun e w'=>∃g' c',e=.returned (.slice (some ⟨g',0,none⟩) (AK zs).length c')/\BK w' w.heap.size (.slice (some ⟨g',0,none⟩) (AK zs).length c') (AK zs)/\Below w.heap.size w w':=by
 have e:AK zs=Bv zs (BS zs.length) 2 ⟨0,1,0⟩:=by unfold AK;rw[if_neg hz.n0]
 have hadd:=Fk g zs c hz hcc w.heap.size hg.lt 2 (by omega) ⟨0,1,0⟩ (.slice none 0 0) [];rw[<- e] at hadd;have hok:=Jr zs hz;generalize AK zs=ps at *;obtain⟨wb,hwb⟩:∃wb,wb=w.alloc (.cells #[.slice (some ⟨g,0,none⟩) zs.length c] 31):=⟨_,rfl⟩
 have hbb:Below w.heap.size w wb:=by rw[hwb];exact(Below.refl _ _).alloc (Nat.le_refl _) _
 have hzb:wb.heap.size=w.heap.size+1:=by rw[hwb];simp
 have h1:=hadd wb hok (hg.below hbb hg.lt) (by omega) (by simp) (World.ownsRow_nil _ _ _ _);have HBB:Hid (Below _ _ _):=hbb;have HWB:Hid (wb=_):=hwb;rw[hwb] at h1;clear hadd hbb hwb e hok hz;go_enter func154,ntmps154
 go_wp2_with fail
 refine h1.mono ?_;rintro e w2 ⟨g2,c2,rfl,hp2,hgr2,_⟩;have hgr2':wb.grownBy w2 none:=by rw[HWB.out];exact hgr2
 have hb2:Below wb.heap.size wb w2:=⟨hgr2'.os,hgr2'.tape,hgr2'.output,hgr2'.size,fun k hk=>hgr2'.block k hk (by simp)⟩;have HP2:Hid (BK _ _ _ _):=hp2;have HB2:Hid (Below w.heap.size w w2):=HBB.out.trans (hb2.mono (by omega));clear hgr2 hgr2' hb2 hp2 h1;go_wp2_with fail
 go_ret;exact⟨g2,c2,rfl,HP2.out,HB2.out⟩
end Go.Proofs.YtnmhkgmmpkjjeabGreat
