import Derived.Test.YtnmhkgmmpkjjeaaGreatM02
import Derived.Laws.Cover3
namespace Go.Proofs.YtnmhkgmmpkjjeaaGreat
open ChangeShapes WideShapes ChangeAt RowKit Proofs.Tryz
set_option linter.all false
set_option maxRecDepth 100000
set_option maxHeartbeats 4000000
attribute [local go_sem ↓] wp_at_zero wp_at_succ
structure Cu (zs:List Int):Prop where
 n0:An zs.length≠0
 rng:∀i,0<=zs.getD i 0/\zs.getD i 0<2 ^ 64
def Yd (zs:List Int) (d:Nat) (p:P3):Prop:=p.lv+d=3/\1<=p.lv/\0<=p.fr/\p.fr<An zs.length/\0<=p.pg/\p.pg<=4096*p.lv
theorem JR{zs:List Int}{d:Nat}{p:P3}(h:Yd zs (d+1) p)(i:Nat)(hi:i<16)(hl:Dq zs (An zs.length) p i=true):Yd zs d (Af zs p i):=by
 obtain⟨a,b,c,e,f,g⟩:=h;simp only[Dq,Bool.and_eq_true,decide_eq_true_eq] at hl;have ho:=Ci p.lv (AC zs p.fr i);have hc:=Ku p.lv;have y0:0<=(i:Int)*BX p.lv:=Int.mul_nonneg (by omega) hc.1;have y1:(i:Int)*BX p.lv<=15*256:=Int.mul_le_mul (by omega) hc.2 hc.1 (by omega);refine⟨?_,?_,ho.1,hl.2,?_,?_⟩
 ·show p.lv+1+d=3;omega
 ·show 1<=p.lv+1;omega
 ·show 0<=p.pg+i*BX p.lv;omega
 ·show p.pg+i*BX p.lv<=4096*(p.lv+1);omega
theorem JQ{zs:List Int}:∀(d:Nat) (p:P3),Yd zs d p->∀q∈Ax zs (An zs.length) d p,∃d',Yd zs d' q
 | 0,p,h=>by intro q hq;simp[Ax] at hq;subst hq;exact⟨0,h⟩
 | d+1,p,h=>by
  intro q hq;simp only[Ax,Ar,List.mem_cons,List.mem_flatMap,List.mem_range] at hq;rcases hq with rfl|⟨i,hi,hq⟩
  ·exact⟨d+1,h⟩
  ·by_cases hl:Dq zs (An zs.length) p i=true
   ·rw[if_pos hl] at hq;exact JQ d _ (JR h i hi hl) q hq
   ·rw[if_neg hl] at hq;simp at hq
theorem IB(g:Nat)(zs:List Int)(c:Nat)(hz:Cu zs):∀(d:Nat),d<=2->∀(p:P3) (w:World),Yd zs d p->BQ w g zs ->
  Calls prog 61 #[.agg #[.slice (some ⟨g,0,none⟩) zs.length c],.agg #[.int .i64 p.fr,.int .i64 p.lv,.int .i64 p.pg]] w fun e w'=>∃a c,e=.returned (.slice a (Ax zs (An zs.length) d p).length c)/\BE w' w.heap.size (.slice a (Ax zs (An zs.length) d p).length c) (Ax zs (An zs.length) d p)/\Bl w w'
 | 0,_,p,w,hp,hg=>Qs g zs.length c p (by have:=hp.1;omega) w
 | d+1,hd,p,w,hp,hg=>by
  have hm:=Bz zs.length hz.n0;have hle:=Dv zs.length;have hp':=hp;obtain⟨a,b,c1,e,f,g1⟩:=hp';refine Qc g zs c d p p.fr.toNat (by omega) (by omega) (by omega) b (by omega) f g1 (Ax zs (An zs.length) d) ?_ (An zs.length) rfl ?_ ?_ w hg
  ·intro q;have:=EZ zs (An zs.length) d q;have:Z9 d<=17:=by
    rcases(show d=0\/d=1 by omega) with rfl|rfl<;>decide
   omega
  ·intro i hi w;have:=hz.rng ((p.fr*16).toNat+i);exact CJ p.lv (AC zs p.fr i) this.1 this.2 w
  ·intro i w hi hl hg;exact IB g zs c hz d (by omega) (Af zs p i) w (JR hp i hi hl) hg
def A7 (zs:List Int):List P3:=if An zs.length=0 then [] else Ax zs (An zs.length) 2 ⟨0,1,0⟩
def Be (zs:List Int):Bool:=!decide (An zs.length=0)&&C0 zs (An zs.length) (A7 zs) (A7 zs).length
theorem DD(zs:List Int):(A7 zs).length<=273:=by
 unfold A7;split
 ·simp
 ·exact EZ zs _ 2 _
theorem MR(g:Nat)(n c:Nat)(hn:n<=1048576)(h0:An n=0)(w:World):Calls prog 21 #[.agg #[.slice (some ⟨g,0,none⟩) n c]] w fun e w'=>∃a c',e=.returned (.tuple #[.slice a 0 c',.bool false])/\BE w' w.heap.size (.slice a 0 c') []/\Bl w w':=by
 have hf:=DZ (some ⟨g,0,none⟩) n c (by omega);rw[h0] at hf;go_enter func21,ntmps21
 go_wp2_with (go_at_call 57;refine(hf _).mono ?_;rintro e w1 ⟨rfl,hb1⟩)
 go_ret2
 have hs:=hb1.size;simp at hs;exact⟨_,_,rfl,⟨rfl,.inr ⟨w1.heap.size,0,#[],rfl,by omega,heap_alloc_new w1 _,Nat.le_refl _,by unfold maxLen;omega,rfl,rfl⟩⟩,(AO.trans (hb1.mono (by simp))).alloc (by omega) _⟩
theorem Ji(a:Option Addr)(m c:Nat)(hm:m<=17592186044416)(w:World):Calls prog 87 #[.agg #[.slice a m c]] w (AM w (.bool (!decide (An m=0)))):=by
 by_cases h1:m<16
 ·have e:An m=0:=by unfold An;rw[if_pos (.inl h1)]
  simp only[e,decide_true,Bool.not_true];have h1':decide ((16:Int)<=m)=false:=by simp;omega
  clear e;go_enter func87,ntmps87
  go_wp2
  go_ret;exact⟨rfl,AO⟩
 ·by_cases h2:8192<m
  ·(have e:An m=0:=by unfold An;rw[if_pos (.inr (.inl h2))]);simp only[e,decide_true,Bool.not_true];(have h1':decide ((16:Int)<=m)=true:=by simp;omega);(have h2':decide ((m:Int)<=8192)=false:=by simp;omega);clear e;(go_enter func87,ntmps87);(go_wp2);go_ret;exact⟨rfl,AO⟩
  ·(have h1':decide ((16:Int)<=m)=true:=by simp;omega);(have h2':decide ((m:Int)<=8192)=true:=by simp;omega);by_cases h3:m%16=0
   ·(have e:¬An m=0:=by unfold An;rw[if_neg (by omega)];omega);simp only[e,decide_false,Bool.not_false];(have h3':((m:Int)%16==0)=true:=by simp;omega);clear e;(go_enter func87,ntmps87);(go_wp2);go_ret;exact⟨rfl,AO⟩
   ·(have e:An m=0:=by unfold An;rw[if_pos (.inr (.inr h3))]);simp only[e,decide_true,Bool.not_true];(have h3':((m:Int)%16==0)=false:=by simp;omega);clear e;(go_enter func87,ntmps87);(go_wp2);go_ret;exact⟨rfl,AO⟩
theorem Ey(a:Option Addr)(m c:Nat)(o n:Int)(hn:n*16=m)(ho:0<=o)(hm:m<=8192)(w:World):Calls prog 155 #[.agg #[.slice a m c],.int .i64 o] w (AM w (.bool (decide (o<n)))):=by
 have e1:(m:Int)/16=n:=by omega
 by_cases h:o<n
 ·have h1:decide (o<(m:Int)/16)=true:=by rw[e1];simpa using h
  simp only[h,decide_true];clear e1 h;go_enter func155,ntmps155
  go_wp2
  go_ret;exact⟨rfl,AO⟩
 ·have h1:decide (o<(m:Int)/16)=false:=by rw[e1];simpa using h
  simp only[h,decide_false];clear e1 h;go_enter func155,ntmps155
  go_wp2
  go_ret;exact⟨rfl,AO⟩
theorem BJ(l:Int)(w:World):Calls prog 168 #[.int .i64 l] w fun e w'=>e=.returned (.int .i64 (BX l))/\w'=w:=by
 by_cases h1:l=1
 ·subst h1;go_enter func168,ntmps168
  go_wp2
  go_ret;exact⟨rfl,rfl⟩
 ·by_cases h2:l=2
  ·subst h2;(go_enter func168,ntmps168);(go_wp2);go_ret;exact⟨rfl,rfl⟩
  ·(have e:BX l=1:=by simp[BX,h1,h2]);rw[e];(have h1':(l==1)=false:=by simpa using h1);(have h2':(l==2)=false:=by simpa using h2);clear e h1 h2;(go_enter func168,ntmps168);(go_wp2);go_ret;exact⟨rfl,rfl⟩
theorem Dm(l:Int)(w:World):Calls prog 114 #[.int .i64 l] w fun e w'=>e=.returned (.int .i64 (16*BX l))/\w'=w:=by
 have hc:=BJ l;have hb:=Ku l;generalize BX l=C at *;go_enter func114,ntmps114
 go_wp2_with (go_at_call 168;refine(hc _).mono ?_;rintro e w1 ⟨rfl,rfl⟩)
 go_ret;exact⟨rfl,rfl⟩
set_option maxRecDepth 100000 in
theorem Jw(g:Nat)(zs:List Int)(c F:Nat)(hF:F*16+16<=zs.length)(hlen:zs.length<=8192)(hc:zs.length<=c)(w:World)(hg:BQ w g zs):Calls prog 197 #[.agg #[.slice (some ⟨g,0,none⟩) zs.length c],.int .i64 F] w fun e w'=>(∃T:Array Value,e=.returned (.agg T)/\T.size=16/\∀k,k<16->T[k]?=some (.int .u64 (zs.getD (F*16+k) 0)))/\Bl w w':=by
 have a1:(0:Int)<=F*16:=by omega
 have a3:((F:Int)+1)*16<=c:=by omega
 have hgl:=hg.lt;have hat:∀w,(Instr.arrayAt 282 (.slice (some ⟨g,F*16,none⟩) ((F+1)*16-F*16) (c-F*16))).run prog w=.ok (.pointer (some ⟨g,F*16,none⟩)) w:=fun w=>run_arrayAt w 282 _ 16 _ _ _ underlying282 (by omega)
 have w0:=hg.cell (i:=F*16) (by omega);have w1:=hg.cell (i:=F*16+1) (by omega);have w2:=hg.cell (i:=F*16+2) (by omega);have w3:=hg.cell (i:=F*16+3) (by omega);have w4:=hg.cell (i:=F*16+4) (by omega);have w5:=hg.cell (i:=F*16+5) (by omega);have w6:=hg.cell (i:=F*16+6) (by omega);have w7:=hg.cell (i:=F*16+7) (by omega);have w8:=hg.cell (i:=F*16+8) (by omega);have w9:=hg.cell (i:=F*16+9) (by omega);have w10:=hg.cell (i:=F*16+10) (by omega);have w11:=hg.cell (i:=F*16+11) (by omega);have w12:=hg.cell (i:=F*16+12) (by omega);have w13:=hg.cell (i:=F*16+13) (by omega);have w14:=hg.cell (i:=F*16+14) (by omega);have w15:=hg.cell (i:=F*16+15) (by omega);clear hg;go_enter func197,ntmps197
 go_wp2
 refine bodyPost_ret (v:=.agg #[.int .u64 (zs.getD (F*16+0) 0),.int .u64 (zs.getD (F*16+1) 0),.int .u64 (zs.getD (F*16+2) 0),.int .u64 (zs.getD (F*16+3) 0),.int .u64 (zs.getD (F*16+4) 0),.int .u64 (zs.getD (F*16+5) 0),.int .u64 (zs.getD (F*16+6) 0),.int .u64 (zs.getD (F*16+7) 0),.int .u64 (zs.getD (F*16+8) 0),.int .u64 (zs.getD (F*16+9) 0),.int .u64 (zs.getD (F*16+10) 0),.int .u64 (zs.getD (F*16+11) 0),.int .u64 (zs.getD (F*16+12) 0),.int .u64 (zs.getD (F*16+13) 0),.int .u64 (zs.getD (F*16+14) 0),.int .u64 (zs.getD (F*16+15) 0)]) (by simp[results,results197,go_sem]) rfl ⟨⟨_,rfl,rfl,?_⟩,AO.alloc (by simp) _⟩;intro k hk;match k,hk with
 | 0,_=>rfl
 | 1,_=>rfl
 | 2,_=>rfl
 | 3,_=>rfl
 | 4,_=>rfl
 | 5,_=>rfl
 | 6,_=>rfl
 | 7,_=>rfl
 | 8,_=>rfl
 | 9,_=>rfl
 | 10,_=>rfl
 | 11,_=>rfl
 | 12,_=>rfl
 | 13,_=>rfl
 | 14,_=>rfl
 | 15,_=>rfl
 | k+16,h=>omega
theorem KA(zs:List Int)(n:Int)(ps:List P3)(i:Nat):C0 zs n ps (i+1)=(C0 zs n ps i&&(EQ ps i&&Ct zs n (Aq ps i))):=by
 simp[C0,List.range_succ,List.all_append]
theorem GC(zs:List Int)(n:Int)(ps:List P3)(i m:Nat)(hi:i<m)(h:(EQ ps i&&Ct zs n (Aq ps i))=false):C0 zs n ps m=false:=by
 rw[C0,List.all_eq_false];exact⟨i,List.mem_range.2 hi,by simpa using h⟩
theorem F8(f:Nat->Bool)(j:Nat):(List.range (j+1)).all f=((List.range j).all f&&f j):=by
 simp[List.range_succ,List.all_append]
theorem Er(f:Nat->Bool)(i m:Nat)(hi:i<m)(h:f i=false):(List.range m).all f=false:=by
 rw[List.all_eq_false];exact⟨i,List.mem_range.2 hi,by simpa using h⟩
structure Xd (zs:List Int) (ps:List P3):Prop where
 le:ps.length<=273
 pos:0<ps.length
 ok:∀i,i<ps.length->∃F:Nat,(Aq ps i).fr=F/\F*16+16<=zs.length
theorem LY(g:Nat)(zs:List Int)(c:Nat)(n:Int)(ps:List P3)(hn:n=An zs.length)(hn0:An zs.length≠0)(hlen:zs.length<=8192)(hps:Xd zs ps)(hd:∀i k,i<ps.length->k<16->∀w,Calls prog 62 #[.int .i64 (Aq ps i).lv,.int .u64 (AC zs (Aq ps i).fr k)] w fun e w'=>e=.returned (.agg #[.int .i64 (AG (Aq ps i).lv (AC zs (Aq ps i).fr k)),.int .i64 (AX (Aq ps i).lv (AC zs (Aq ps i).fr k)),.int .i64 (Ak (Aq ps i).lv (AC zs (Aq ps i).fr k))])/\Bl w w')(hbl:∀w,BQ w g zs->Calls prog 61 #[.agg #[.slice (some ⟨g,0,none⟩) zs.length c],.agg #[.int .i64 0,.int .i64 1,.int .i64 0]] w fun e w'=>∃a c,e=.returned (.slice a ps.length c)/\BE w' w.heap.size (.slice a ps.length c) ps/\Bl w w')(w:World)(hg:BQ w g zs):Calls prog 21 #[.agg #[.slice (some ⟨g,0,none⟩) zs.length c]] w fun e w'=>∃a c',e=.returned (.tuple #[.slice a ps.length c',.bool (C0 zs n ps ps.length)])/\BE w' w.heap.size (.slice a ps.length c') ps/\Bl w w':=by
 have hf:=DZ (some ⟨g,0,none⟩) zs.length c (by omega);rw[<- hn] at hf;have hn1:(n==0)=false:=by simp;omega
 have HD:=A5 hd;have HPS:=A5 hps;have hpl:=hps.le;clear hn hn0 hd hps;go_enter func21,ntmps21
 go_wp2_with (go_at_call 57;refine(hf _).mono ?_;rintro e w1 ⟨rfl,hb1⟩;obtain⟨hc1,hf1⟩:=Fr hb1)
 refine(hbl w1 ?_).mono ?_
 ·exact hg.below (AO.trans (hb1.mono (by simp))) hg.lt
 rintro e w3 ⟨a3,c3,rfl,hrow,hb3⟩;obtain⟨a3',c3',hab,hform⟩:=hrow.form;simp only[Value.slice.injEq] at hab;obtain⟨gp,N,f,h1,h2,h3,h4,h5⟩:=hform HPS.out.pos;have ha3:a3=some ⟨gp,0,none⟩:=hab.1.trans h1;subst ha3;have hs1:=hb1.size;simp at hs1;have hs3:=hb3.size;have hbase:Bl w w3:=(AO.trans (hb1.mono (by simp))).trans (hb3.mono (by omega));have hg3:BQ w3 g zs:=hg.below hbase hg.lt;have hbox:w3.cell? ⟨w.heap.size,0,none⟩=some (.slice (some ⟨g,0,none⟩) zs.length c):=by
  rw[hb3.cell (by simp;omega),hb1.cell (by simp)];simp[go_sem]
 have HROW:Hid (BE w3 w.heap.size _ ps):=hrow.rebase (by omega);have HBASE:=A5 hbase;have HG:=A5 hg3;have HB:=A5 hbox;have HPR:Hid (w3.rowIs gp 67 N f/\ps.length*3<=N/\∀i,i<ps.length->f (i*3)=.int .i64 (Aq ps i).fr/\f (i*3+1)=.int .i64 (Aq ps i).lv/\f (i*3+2)=.int .i64 (Aq ps i).pg):=⟨h3,h4,h5⟩;have hsz0:w.heap.size<w3.heap.size:=by omega
 clear hc1 hf1 hb1 hb3 hrow hform hab h1 h2 h3 h4 h5 hbase hg3 hbox hf hbl hg hs1 hs3;go_wp2_with fail
 go_loopw [6] (fun iv wr=>∃i:Nat,i<=ps.length/\iv=.int .i64 i/\C0 zs n ps i=true/\Bl w3 wr) (fun iv _=>ps.length-(intOf iv).toNat)
 case atStart=>exact⟨0,Nat.zero_le _,rfl,rfl,AH⟩
 case round =>
  obtain⟨i,hi,rfl,htr,hb⟩:=hrel;by_cases hlt:i<ps.length
  ·obtain⟨hrw,hN,hpa⟩:=HPR.out;have HTR:=A5 htr;have HBo:=A5 hb;(obtain⟨wo,hwo⟩:∃wo:World,wo=wr:=⟨_,rfl⟩);(have hbo:Bl w3 wo:=by rw[hwo];exact hb);(have I1:(0:Int)<=(i:Int):=by omega);(have I2:(i:Int)<(ps.length:Int):=by omega);clear htr hb hbo hwo;(go_wp2_with fail);(go_loopw [7] (fun jv wr=>∃j:Nat,j<=i/\jv=.int .i64 j/\(List.range j).all (fun j=>!decide ((Aq ps i).fr=(Aq ps j).fr))=true/\Bl w3 wr) (fun jv _=>i-(intOf jv).toNat));(case atStart=>exact⟨0,Nat.zero_le _,rfl,rfl,HBo.out⟩);case round =>
    obtain⟨j,hj,rfl,hall,hb⟩:=hrel;by_cases hlt2:j<i
    ·have hr1:wr.rowIs gp _ N f:=hrw.of_block (hb.block gp hrw.lt);have k1:=hr1.cell (i:=i*3) (by omega);have k2:=hr1.cell (i:=j*3) (by omega);rw[(hpa i hlt).1] at k1;rw[(hpa j (by omega)).1] at k2;(have J1:(0:Int)<=(j:Int):=by omega);(have J2:(j:Int)<(ps.length:Int):=by omega);(have J3:(j:Int)<(i:Int):=by omega);have hsucc:=F8 (fun j=>!decide ((Aq ps i).fr=(Aq ps j).fr)) j;by_cases heq:(Aq ps i).fr=(Aq ps j).fr
     ·have hfalse:C0 zs n ps ps.length=false:=GC zs n ps i _ hlt (by
       rw[EQ,Er _ j i hlt2 (by simp[heq]),Bool.false_and])
      rw[heq] at k1;have HFA:=A5 hfalse;have HBj:=A5 hb;clear hsucc heq hfalse hall hr1 hb hrw hpa;generalize (Aq ps j).fr=A at *;(go_wp2_with fail);(go_quiet (fail));(go_wp2_with fail);(go_ret2);exact⟨some ⟨gp,0,none⟩,c3,by rw[HFA.out];rfl,HROW.out.below (CY HBj.out _),HBASE.out.trans ((CY HBj.out _).mono (by omega))⟩
     ·(have hne:((Aq ps i).fr==(Aq ps j).fr)=false:=by simpa using heq);have hstep:(List.range (j+1)).all (fun j=>!decide ((Aq ps i).fr=(Aq ps j).fr))=true:=by
       rw[hsucc,hall];simp[heq]
      have HST:=A5 hstep;have HBj:=A5 hb;clear hsucc heq hall hstep hr1 hb hrw hpa;(go_wp2_with fail);(go_quiet (fail));(go_wp2_with fail);go_roundw;(case rel=>exact⟨j+1,by omega,by go_num,HST.out,CY HBj.out _⟩);case measure=>simp[intOf];omega
    ·(have e:j=i:=by omega);subst e;have hfr:EQ ps j=true:=hall;have HFR:=A5 hfr;have HBj:=A5 hb;clear hall hfr hb;have hsu:=KA zs n ps j;rw[HTR.out,HFR.out,Bool.true_and,Bool.true_and] at hsu;have HSU:=A5 hsu;clear hsu;(go_wp2_with fail);(go_loopw [8] (fun kv wr=>∃k:Nat,k<=16/\kv=.int .i64 k/\(List.range k).all (Cy zs n (Aq ps j))=true/\Bl w3 wr) (fun kv _=>16-(intOf kv).toNat));(case atStart=>exact⟨0,Nat.zero_le _,rfl,rfl,HBj.out⟩);case round =>
      obtain⟨k,hk,rfl,hall,hb⟩:=hrel;by_cases hlt3:k<16
      ·obtain⟨F,hF,hF2⟩:=HPS.out.ok j hlt;have hr1:wr.rowIs gp _ N f:=hrw.of_block (hb.block gp hrw.lt);have hgp:=hr1.lt;have k1:=hr1.cell (i:=j*3) (by omega);have k2:=hr1.cell (i:=j*3+1) (by omega);rw[(hpa j hlt).1] at k1;rw[(hpa j hlt).2.1] at k2;have hgr:BQ wr g zs:=HG.out.below hb HG.out.lt;have hgl:=hgr.lt;have cw:=hgr.cell (i:=F*16+k) (by omega);(have ew:zs.getD (F*16+k) 0=AC zs (Aq ps j).fr k:=by simp[AC,hF];congr 1);rw[ew] at cw;have c0:=(hb.cell (p:=⟨w.heap.size,0,none⟩) (by simpa using hsz0)).trans HB.out;have hdk:=HD.out j k hlt hlt3;have hsz:=hb.size;have hsw:=F8 (Cy zs n (Aq ps j)) k
       have hfa:Cy zs n (Aq ps j) k=false->C0 zs n ps ps.length=false:=fun h=>GC zs n ps j _ hlt (by
        rw[Ct,Er _ k 16 hlt3 h,Bool.and_false])
       have hsk:Cy zs n (Aq ps j) k=!(decide (AG (Aq ps j).lv (AC zs (Aq ps j).fr k)=4)||(decide (AG (Aq ps j).lv (AC zs (Aq ps j).fr k)=1)&&decide (n<=AX (Aq ps j).lv (AC zs (Aq ps j).fr k)))):=rfl;rw[hF] at k1;rw[hall,Bool.true_and] at hsw;have HSW:=A5 hsw;have HFA:=A5 hfa;have HBk:=A5 hb;clear ew hsw hfa hall hr1 hgr hb hrw hpa hF;generalize AC zs (Aq ps j).fr k=X at *;generalize AG (Aq ps j).lv X=K at *;generalize AX (Aq ps j).lv X=O at *;generalize Ak (Aq ps j).lv X=M at *;generalize (Aq ps j).lv=L at *;have HSK:=A5 hsk;clear hsk;(have L1:(0:Int)<=(F:Int)*16+(k:Int):=by omega);(have L2:(F:Int)*16+(k:Int)<(zs.length:Int):=by omega);have W1:=AR ((F:Int)*16);have W2:=AR ((F:Int)*16+(k:Int));(have T1:((F:Int)*16+(k:Int)).toNat=F*16+k:=by omega);(go_upto_region 16 with fail);(go_cut [9] (fun d9 wx=>∃D,d9=.pointer (some ⟨D,0,none⟩)/\wx.cell? ⟨D,0,none⟩=some (.int .i64 K)/\wx.cell? ⟨D,1,none⟩=some (.int .i64 O)/\Bl wr wx));case first =>
        have HK:Hid (∀wX,Bl wr wX->wX.cell? ⟨gp,j*3,none⟩=some (.int .i64 F)/\wX.cell? ⟨gp,j*3+1,none⟩=some (.int .i64 L)/\wX.cell? ⟨w.heap.size,0,none⟩=some (.slice (some ⟨g,0,none⟩) zs.length c)/\wX.cell? ⟨g,F*16+k,none⟩=some (.int .u64 X)) :=
         fun wX h=>⟨(h.cell (by simpa using hgp)).trans k1,(h.cell (by simpa using hgp)).trans k2,(h.cell (by simp;omega)).trans c0,(h.cell (by simpa using hgl)).trans cw⟩
        go_region_held3 (fun w'=>w'.cell? ⟨gp,j*3,none⟩=some (.int .i64 F)/\w'.cell? ⟨gp,j*3+1,none⟩=some (.int .i64 L)/\w'.cell? ⟨w.heap.size,0,none⟩=some (.slice (some ⟨g,0,none⟩) zs.length c)/\w'.cell? ⟨g,F*16+k,none⟩=some (.int .u64 X))
         ((refine HK.out _ ?_;repeat (first|exact AH|with_reducible refine Below.drew ?_|with_reducible refine Below.setCell ?_ (by first|omega|(simp<;>omega)) _|with_reducible refine Below.alloc ?_ (by first|omega|(simp<;>omega)) _|refine Below.trans ?_ (hb1.mono (by first|omega|(simp<;>omega))))))
         (first|(go_at_call 62;refine(hdk _).mono ?_;rintro e w1 ⟨rfl,hb1⟩;obtain⟨hc1,hf1⟩:=Fr hb1;have hz1:=hb1.size;simp at hz1))
        all_goals
         go_wp2_with fail
         go_meet
         case rel =>
          refine⟨_,rfl,?_,?_,?_⟩
          ·simp[go_sem,hc1]
          ·simp[go_sem,hc1]
          ·repeat (first|exact AH|with_reducible refine Below.drew ?_|with_reducible refine Below.setCell ?_ (by first|omega|(simp<;>omega)) _|with_reducible refine Below.alloc ?_ (by first|omega|(simp<;>omega)) _|refine Below.trans ?_ (hb1.mono (by first|omega|(simp<;>omega))))
       case rest =>
        obtain⟨D,rfl,d0,d1,hbx⟩:=hcut;have hbxx:Bl w3 wc:=HBk.out.trans (hbx.mono hsz);have HBXX:=A5 hbxx;clear k1 k2 c0 cw hdk W1 W2 T1 L1 L2 hbx hbxx;by_cases hK4:K=4
        ·subst hK4;have HFA2:Hid (C0 zs n ps ps.length=false):=HFA.out (by rw[HSK.out];simp);clear HFA HSW HSK;(go_wp2_with fail);(go_ret2);exact⟨some ⟨gp,0,none⟩,c3,by rw[HFA2.out];rfl,HROW.out.below HBXX.out,HBASE.out.trans (HBXX.out.mono (by omega))⟩
        ·by_cases hK1:K=1
         ·subst hK1;by_cases hO:n<=O
          ·(have hO':decide (n<=O)=true:=by simpa using hO);have HFA2:Hid (C0 zs n ps ps.length=false):=HFA.out (by rw[HSK.out];simp[hO]);clear HFA HSW HSK;(go_wp2_with fail);(go_ret2);exact⟨some ⟨gp,0,none⟩,c3,by rw[HFA2.out];rfl,HROW.out.below HBXX.out,HBASE.out.trans (HBXX.out.mono (by omega))⟩
          ·(have hO':decide (n<=O)=false:=by simpa using hO);have HST:Hid ((List.range (k+1)).all (Cy zs n (Aq ps j))=true):=by
            exact(show _=true by rw[HSW.out,HSK.out];simp[hO])
           clear HFA HSW HSK;(go_wp2_with fail);go_roundw;(case rel=>exact⟨k+1,by omega,by go_num,HST.out,HBXX.out⟩);case measure=>simp[intOf];omega
         ·(have hK4':(K==4)=false:=by simpa using hK4);(have hK1':(K==1)=false:=by simpa using hK1);have HST:Hid ((List.range (k+1)).all (Cy zs n (Aq ps j))=true):=by
           exact(show _=true by rw[HSW.out,HSK.out];simp[hK4,hK1])
          clear HFA HSW HSK;(go_wp2_with fail);go_roundw;(case rel=>exact⟨k+1,by omega,by go_num,HST.out,HBXX.out⟩);case measure=>simp[intOf];omega
      ·(have e:k=16:=by omega);subst e;(have hT:C0 zs n ps (j+1)=true:=by rw[HSU.out];exact hall);have HT:=A5 hT;clear hT hall;(go_wp2_with fail);go_roundw;(case rel=>exact⟨j+1,by omega,by go_num,HT.out,hb⟩);case measure=>simp[intOf];omega
  ·(have e:i=ps.length:=by omega);subst e;have HT:=A5 htr;clear htr;(go_wp2_with fail);(go_ret2);exact⟨some ⟨gp,0,none⟩,c3,by rw[HT.out];rfl,HROW.out.below hb,HBASE.out.trans (hb.mono (by omega))⟩
end Go.Proofs.YtnmhkgmmpkjjeaaGreat
