import Derived.Test.YtnmhkgmmpkjjeaaGreatL05
import Derived.Laws.Cover3
namespace Go.Proofs.YtnmhkgmmpkjjeaaGreat
open Go.ChangeShapes Go.WideShapes Go.ChangeAt Go.RowKit
set_option linter.unusedVariables false
attribute [local go_sem ↓] Go.wp_at_zero Go.wp_at_succ
structure D3 (zs:List Int):Prop where
 n0:Ae zs.length≠0
 rng:∀i,0<=zs.getD i 0/\zs.getD i 0<2 ^ 64
def Vi (zs:List Int) (d:Nat) (p:P3):Prop:=p.lv+d=3/\1<=p.lv/\0<=p.fr/\p.fr<Ae zs.length/\0<=p.pg/\p.pg<=4096*p.lv
theorem Iu {zs:List Int} {d:Nat} {p:P3} (h:Vi zs (d+1) p) (i:Nat) (hi:i<16) (hl:EF zs (Ae zs.length) p i=true):Vi zs d (AT zs p i):=by
 obtain⟨a,b,c,e,f,g⟩:=h;simp only[EF,Bool.and_eq_true,decide_eq_true_eq] at hl;have ho:=Cd p.lv (A7 zs p.fr i);have hc:=Jg p.lv;have y0:0<=(i:Int)*Bj p.lv:=Int.mul_nonneg (by omega) hc.1;have y1:(i:Int)*Bj p.lv<=15*256:=Int.mul_le_mul (by omega) hc.2 hc.1 (by omega);refine⟨?_,?_,ho.1,hl.2,?_,?_⟩
 ·show p.lv+1+d=3;omega
 ·show 1<=p.lv+1;omega
 ·show 0<=p.pg+i*Bj p.lv;omega
 ·show p.pg+i*Bj p.lv<=4096*(p.lv+1);omega
theorem Ip {zs:List Int}:∀(d:Nat) (p:P3),Vi zs d p->∀q∈Ak zs (Ae zs.length) d p,∃d',Vi zs d' q
 | 0,p,h=>by intro q hq;simp[Ak] at hq;subst hq;exact⟨0,h⟩
 | d+1,p,h=>by
  intro q hq;simp only[Ak,Af,List.mem_cons,List.mem_flatMap,List.mem_range] at hq;rcases hq with rfl|⟨i,hi,hq⟩
  ·exact⟨d+1,h⟩
  ·by_cases hl:EF zs (Ae zs.length) p i=true
   ·rw[if_pos hl] at hq;exact Ip d _ (Iu h i hi hl) q hq
   ·rw[if_neg hl] at hq;simp at hq
theorem Gp (g:Nat) (zs:List Int) (c:Nat) (hz:D3 zs):∀(d:Nat),d<=2->∀(p:P3) (w:World),Vi zs d p->At w g zs ->
  Calls Tryz.prog 61 #[.agg #[.slice (some ⟨g,0,none⟩) zs.length c],.agg #[.int .i64 p.fr,.int .i64 p.lv,.int .i64 p.pg]] w fun e w'=>∃a c,e=.returned (.slice a (Ak zs (Ae zs.length) d p).length c)/\Ab w' w.heap.size (.slice a (Ak zs (Ae zs.length) d p).length c) (Ak zs (Ae zs.length) d p)/\Below w.heap.size w w'
 | 0,_,p,w,hp,hg=>Q0 g zs.length c p (by have:=hp.1;omega) w
 | d+1,hd,p,w,hp,hg=>by
  have hm:=BS zs.length hz.n0;have hle:=D9 zs.length;have hp':=hp;obtain⟨a,b,c1,e,f,g1⟩:=hp';refine PT g zs c d p p.fr.toNat (by omega) (by omega) (by omega) b (by omega) f g1 (Ak zs (Ae zs.length) d) ?_ (Ae zs.length) rfl ?_ ?_ w hg
  ·intro q;have:=Dx zs (Ae zs.length) d q;have:WO d<=17:=by
    rcases(show d=0\/d=1 by omega) with rfl|rfl<;>decide
   omega
  ·intro i hi w;have:=hz.rng ((p.fr*16).toNat+i);exact Bt p.lv (A7 zs p.fr i) this.1 this.2 w
  ·intro i w hi hl hg;exact Gp g zs c hz d (by omega) (AT zs p i) w (Iu hp i hi hl) hg
def A5 (zs:List Int):List P3:=if Ae zs.length=0 then [] else Ak zs (Ae zs.length) 2 ⟨0,1,0⟩
def BO (zs:List Int):Bool:=!decide (Ae zs.length=0)&&Bg zs (Ae zs.length) (A5 zs) (A5 zs).length
theorem DZ (zs:List Int):(A5 zs).length<=273:=by
 unfold A5;split
 ·simp
 ·exact Dx zs _ 2 _
theorem L8 (g:Nat) (n c:Nat) (hn:n<=1048576) (h0:Ae n=0) (w:World) : Calls Tryz.prog 21 #[.agg #[.slice (some ⟨g,0,none⟩) n c]] w fun e w'=>∃a c',e=.returned (.tuple #[.slice a 0 c',.bool false])/\Ab w' w.heap.size (.slice a 0 c') []/\Below w.heap.size w w':=by
 have hf:=D6 (some ⟨g,0,none⟩) n c (by omega);rw[h0] at hf;go_enter Tryz.func21,Tryz.ntmps21
 go_wp2_with (go_at_call 57;refine(hf _).mono ?_;rintro e w1 ⟨rfl,hb1⟩)
 go_ret2
 have hs:=hb1.size;simp at hs;exact⟨_,_,rfl,⟨rfl,.inr ⟨w1.heap.size,0,#[],rfl,by omega,heap_alloc_new w1 _,Nat.le_refl _,by unfold maxLen;omega,rfl,rfl⟩⟩,(((Below.refl _ _).alloc (Nat.le_refl _) _).trans (hb1.mono (by simp))).alloc (by omega) _⟩
theorem La (a:Option Addr) (m c:Nat) (hm:m<=17592186044416) (w:World) : Calls Tryz.prog 87 #[.agg #[.slice a m c]] w fun e w'=>e=.returned (.bool (!decide (Ae m=0)))/\Below w.heap.size w w':=by
 by_cases h1:m<16
 ·have e:Ae m=0:=by unfold Ae;rw[if_pos (.inl h1)]
  simp only[e,decide_true,Bool.not_true];have h1':decide ((16:Int)<=m)=false:=by simp;omega
  clear e;go_enter Tryz.func87,Tryz.ntmps87
  go_wp2
  go_ret;exact⟨rfl,(Below.refl _ _).alloc (Nat.le_refl _) _⟩
 ·by_cases h2:8192<m
  ·(have e:Ae m=0:=by unfold Ae;rw[if_pos (.inr (.inl h2))]);simp only[e,decide_true,Bool.not_true];(have h1':decide ((16:Int)<=m)=true:=by simp;omega);(have h2':decide ((m:Int)<=8192)=false:=by simp;omega);clear e;(go_enter Tryz.func87,Tryz.ntmps87);(go_wp2);go_ret;exact⟨rfl,(Below.refl _ _).alloc (Nat.le_refl _) _⟩
  ·(have h1':decide ((16:Int)<=m)=true:=by simp;omega);(have h2':decide ((m:Int)<=8192)=true:=by simp;omega);by_cases h3:m%16=0
   ·(have e:¬Ae m=0:=by unfold Ae;rw[if_neg (by omega)];omega);simp only[e,decide_false,Bool.not_false];(have h3':((m:Int)%16==0)=true:=by simp;omega);clear e;(go_enter Tryz.func87,Tryz.ntmps87);(go_wp2);go_ret;exact⟨rfl,(Below.refl _ _).alloc (Nat.le_refl _) _⟩
   ·(have e:Ae m=0:=by unfold Ae;rw[if_pos (.inr (.inr h3))]);simp only[e,decide_true,Bool.not_true];(have h3':((m:Int)%16==0)=false:=by simp;omega);clear e;(go_enter Tryz.func87,Tryz.ntmps87);(go_wp2);go_ret;exact⟨rfl,(Below.refl _ _).alloc (Nat.le_refl _) _⟩
theorem Ft (a:Option Addr) (m c:Nat) (o n:Int) (hn:n*16=m) (ho:0<=o) (hm:m<=8192) (w:World) : Calls Tryz.prog 155 #[.agg #[.slice a m c],.int .i64 o] w fun e w'=>e=.returned (.bool (decide (o<n)))/\Below w.heap.size w w':=by
 have e1:(m:Int)/16=n:=by omega
 have h0:decide (0<=o)=true:=by simpa using ho
 by_cases h:o<n
 ·have h1:decide (o<(m:Int)/16)=true:=by rw[e1];simpa using h
  simp only[h,decide_true];clear e1 h;go_enter Tryz.func155,Tryz.ntmps155
  go_wp2
  go_ret;exact⟨rfl,(Below.refl _ _).alloc (Nat.le_refl _) _⟩
 ·have h1:decide (o<(m:Int)/16)=false:=by rw[e1];simpa using h
  simp only[h,decide_false];clear e1 h;go_enter Tryz.func155,Tryz.ntmps155
  go_wp2
  go_ret;exact⟨rfl,(Below.refl _ _).alloc (Nat.le_refl _) _⟩
theorem CE (l:Int) (w:World) : Calls Tryz.prog 168 #[.int .i64 l] w fun e w'=>e=.returned (.int .i64 (Bj l))/\w'=w:=by
 by_cases h1:l=1
 ·subst h1;go_enter Tryz.func168,Tryz.ntmps168
  go_wp2
  go_ret;exact⟨rfl,rfl⟩
 ·by_cases h2:l=2
  ·subst h2;(go_enter Tryz.func168,Tryz.ntmps168);(go_wp2);go_ret;exact⟨rfl,rfl⟩
  ·(have e:Bj l=1:=by simp[Bj,h1,h2]);rw[e];(have h1':(l==1)=false:=by simpa using h1);(have h2':(l==2)=false:=by simpa using h2);clear e h1 h2;(go_enter Tryz.func168,Tryz.ntmps168);(go_wp2);go_ret;exact⟨rfl,rfl⟩
theorem Ev (l:Int) (w:World) : Calls Tryz.prog 114 #[.int .i64 l] w fun e w'=>e=.returned (.int .i64 (16*Bj l))/\w'=w:=by
 have hc:=CE l;have hb:=Jg l;generalize Bj l=C at *;go_enter Tryz.func114,Tryz.ntmps114
 go_wp2_with (go_at_call 168;refine(hc _).mono ?_;rintro e w1 ⟨rfl,rfl⟩)
 go_ret;exact⟨rfl,rfl⟩
set_option maxRecDepth 100000 in
set_option maxHeartbeats 1000000 in
theorem JC (g:Nat) (zs:List Int) (c F:Nat) (hF:F*16+16<=zs.length) (hlen:zs.length<=8192) (hc:zs.length<=c) (w:World) (hg:At w g zs) : Calls Tryz.prog 197 #[.agg #[.slice (some ⟨g,0,none⟩) zs.length c],.int .i64 F] w fun e w'=>(∃T:Array Value,e=.returned (.agg T)/\T.size=16/\∀k,k<16->T[k]?=some (.int .u64 (zs.getD (F*16+k) 0)))/\Below w.heap.size w w':=by
 have a1:(0:Int)<=F*16:=by omega
 have a2:(F:Int)*16<=(F+1)*16:=by omega
 have a3:((F:Int)+1)*16<=c:=by omega
 have hgl:=hg.lt;have hat:∀w,(Instr.arrayAt 282 (.slice (some ⟨g,F*16,none⟩) ((F+1)*16-F*16) (c-F*16))).run Tryz.prog w=.ok (.pointer (some ⟨g,F*16,none⟩)) w:=fun w=>run_arrayAt w 282 _ 16 _ _ _ Tryz.underlying282 (by omega)
 have w0:=hg.cell (i:=F*16) (by omega);have w1:=hg.cell (i:=F*16+1) (by omega);have w2:=hg.cell (i:=F*16+2) (by omega);have w3:=hg.cell (i:=F*16+3) (by omega);have w4:=hg.cell (i:=F*16+4) (by omega);have w5:=hg.cell (i:=F*16+5) (by omega);have w6:=hg.cell (i:=F*16+6) (by omega);have w7:=hg.cell (i:=F*16+7) (by omega);have w8:=hg.cell (i:=F*16+8) (by omega);have w9:=hg.cell (i:=F*16+9) (by omega);have w10:=hg.cell (i:=F*16+10) (by omega);have w11:=hg.cell (i:=F*16+11) (by omega);have w12:=hg.cell (i:=F*16+12) (by omega);have w13:=hg.cell (i:=F*16+13) (by omega);have w14:=hg.cell (i:=F*16+14) (by omega);have w15:=hg.cell (i:=F*16+15) (by omega);clear hg;go_enter Tryz.func197,Tryz.ntmps197
 go_wp2
 refine bodyPost_ret (v:=.agg #[.int .u64 (zs.getD (F*16+0) 0),.int .u64 (zs.getD (F*16+1) 0),.int .u64 (zs.getD (F*16+2) 0),.int .u64 (zs.getD (F*16+3) 0),.int .u64 (zs.getD (F*16+4) 0),.int .u64 (zs.getD (F*16+5) 0),.int .u64 (zs.getD (F*16+6) 0),.int .u64 (zs.getD (F*16+7) 0),.int .u64 (zs.getD (F*16+8) 0),.int .u64 (zs.getD (F*16+9) 0),.int .u64 (zs.getD (F*16+10) 0),.int .u64 (zs.getD (F*16+11) 0),.int .u64 (zs.getD (F*16+12) 0),.int .u64 (zs.getD (F*16+13) 0),.int .u64 (zs.getD (F*16+14) 0),.int .u64 (zs.getD (F*16+15) 0)]) (by simp[results,Tryz.results197,go_sem]) rfl ⟨⟨_,rfl,rfl,?_⟩,((Below.refl _ _).alloc (Nat.le_refl _) _).alloc (by simp) _⟩;intro k hk;match k,hk with
 | 0,_=>rfl
 | 1,_=>rfl
 | 2,_=>rfl
 | 3,_=>rfl
 | 4,_=>rfl
 | 5,_=>rfl
 | 6,_=>rfl
 | 7,_=>rfl
 | 8,_=>rfl
 | 9,_=>rfl
 | 10,_=>rfl
 | 11,_=>rfl
 | 12,_=>rfl
 | 13,_=>rfl
 | 14,_=>rfl
 | 15,_=>rfl
 | k+16,h=>omega
theorem JI (zs:List Int) (n:Int) (ps:List P3) (i:Nat):Bg zs n ps (i+1)=(Bg zs n ps i&&(EO ps i&&Cn zs n (Ag ps i))):=by
 simp[Bg,List.range_succ,List.all_append]
theorem Fr (zs:List Int) (n:Int) (ps:List P3) (i m:Nat) (hi:i<m) (h:(EO ps i&&Cn zs n (Ag ps i))=false):Bg zs n ps m=false:=by
 rw[Bg,List.all_eq_false];exact⟨i,List.mem_range.2 hi,by simpa using h⟩
theorem Ei (f:Nat->Bool) (j:Nat):(List.range (j+1)).all f=((List.range j).all f&&f j):=by
 simp[List.range_succ,List.all_append]
theorem EI (f:Nat->Bool) (i m:Nat) (hi:i<m) (h:f i=false):(List.range m).all f=false:=by
 rw[List.all_eq_false];exact⟨i,List.mem_range.2 hi,by simpa using h⟩
structure Ss (zs:List Int) (ps:List P3):Prop where
 le:ps.length<=273
 pos:0<ps.length
 ok:∀i,i<ps.length->∃F:Nat,(Ag ps i).fr=F/\F*16+16<=zs.length
set_option maxHeartbeats 2000000 in
theorem Jy (g:Nat) (zs:List Int) (c:Nat) (n:Int) (ps:List P3) (hn:n=Ae zs.length) (hn0:Ae zs.length≠0) (hlen:zs.length<=8192) (hps:Ss zs ps) (hd:∀i k,i<ps.length->k<16->∀w,Calls Tryz.prog 62 #[.int .i64 (Ag ps i).lv,.int .u64 (A7 zs (Ag ps i).fr k)] w fun e w'=>e=.returned (.agg #[.int .i64 (AJ (Ag ps i).lv (A7 zs (Ag ps i).fr k)),.int .i64 (AV (Ag ps i).lv (A7 zs (Ag ps i).fr k)),.int .i64 (B6 (Ag ps i).lv (A7 zs (Ag ps i).fr k))])/\Below w.heap.size w w') (hbl:∀w,At w g zs->Calls Tryz.prog 61 #[.agg #[.slice (some ⟨g,0,none⟩) zs.length c],.agg #[.int .i64 0,.int .i64 1,.int .i64 0]] w fun e w'=>∃a c,e=.returned (.slice a ps.length c)/\Ab w' w.heap.size (.slice a ps.length c) ps/\Below w.heap.size w w') (w:World) (hg:At w g zs) : Calls Tryz.prog 21 #[.agg #[.slice (some ⟨g,0,none⟩) zs.length c]] w fun e w'=>∃a c',e=.returned (.tuple #[.slice a ps.length c',.bool (Bg zs n ps ps.length)])/\Ab w' w.heap.size (.slice a ps.length c') ps/\Below w.heap.size w w':=by
 have hf:=D6 (some ⟨g,0,none⟩) zs.length c (by omega);rw[<- hn] at hf;have hn1:(n==0)=false:=by simp;omega
 have hnle:0<=n/\n<=512:=by have:=D9 zs.length;have:=BS zs.length hn0;omega
 have HNN:Hid (n=Ae zs.length):=hn;have HD:Hid _:=hd;have HPS:Hid (Ss _ _):=hps;have hpl:=hps.le;clear hn hn0 hd hps;go_enter Tryz.func21,Tryz.ntmps21
 go_wp2_with (go_at_call 57;refine(hf _).mono ?_;rintro e w1 ⟨rfl,hb1⟩;obtain⟨hc1,hf1⟩:=JB hb1)
 refine(hbl w1 ?_).mono ?_
 ·exact hg.below (((Below.refl _ _).alloc (Nat.le_refl _) _).trans (hb1.mono (by simp))) hg.lt
 rintro e w3 ⟨a3,c3,rfl,hrow,hb3⟩;obtain⟨a3',c3',hab,hform⟩:=hrow.form;simp only[Value.slice.injEq] at hab;obtain⟨gp,N,f,h1,h2,h3,h4,h5⟩:=hform HPS.out.pos;have ha3:a3=some ⟨gp,0,none⟩:=hab.1.trans h1;subst ha3;have hs1:=hb1.size;simp at hs1;have hs3:=hb3.size;have hbase:Below w.heap.size w w3:=(((Below.refl _ _).alloc (Nat.le_refl _) _).trans (hb1.mono (by simp))).trans (hb3.mono (by omega));have hg3:At w3 g zs:=hg.below hbase hg.lt;have hbox:w3.cell? ⟨w.heap.size,0,none⟩=some (.slice (some ⟨g,0,none⟩) zs.length c):=by
  rw[hb3.cell (by simp;omega),hb1.cell (by simp)];simp[go_sem]
 have HROW:Hid (Ab w3 w.heap.size _ ps):=hrow.rebase (by omega);have HBASE:Hid (Below _ _ _):=hbase;have HG:Hid (At w3 g zs):=hg3;have HB:Hid (w3.cell? ⟨w.heap.size,0,none⟩=some (.slice (some ⟨g,0,none⟩) zs.length c)):=hbox;have HPR:Hid (w3.rowIs gp 67 N f/\ps.length*3<=N/\∀i,i<ps.length->f (i*3)=.int .i64 (Ag ps i).fr/\f (i*3+1)=.int .i64 (Ag ps i).lv/\f (i*3+2)=.int .i64 (Ag ps i).pg):=⟨h3,h4,h5⟩;have hsz0:w.heap.size<w3.heap.size:=by omega
 clear hc1 hf1 hb1 hb3 hrow hform hab h1 h2 h3 h4 h5 hbase hg3 hbox hf hbl hg hs1 hs3;go_wp2_with fail
 go_loopw [6] (fun iv wr=>∃i:Nat,i<=ps.length/\iv=.int .i64 i/\Bg zs n ps i=true/\Below w3.heap.size w3 wr) (fun iv _=>ps.length-(intOf iv).toNat)
 case atStart=>exact⟨0,Nat.zero_le _,rfl,rfl,Below.refl _ _⟩
 case round =>
  obtain⟨i,hi,rfl,htr,hb⟩:=hrel;by_cases hlt:i<ps.length
  ·obtain⟨hrw,hN,hpa⟩:=HPR.out;have HTR:Hid _:=htr;have HBo:Hid (Below _ _ _):=hb;(obtain⟨wo,hwo⟩:∃wo:World,wo=wr:=⟨_,rfl⟩);(have hbo:Below w3.heap.size w3 wo:=by rw[hwo];exact hb);have HBO:Hid (Below _ _ _):=hbo;have hso:=hbo.size;(have I1:(0:Int)<=(i:Int):=by omega);(have I2:(i:Int)<(ps.length:Int):=by omega);have HWO:Hid (wo=wr):=hwo;clear htr hb hbo hwo;(go_wp2_with fail);(go_loopw [7] (fun jv wr=>∃j:Nat,j<=i/\jv=.int .i64 j/\(List.range j).all (fun j=>!decide ((Ag ps i).fr=(Ag ps j).fr))=true/\Below w3.heap.size w3 wr) (fun jv _=>i-(intOf jv).toNat));(case atStart=>exact⟨0,Nat.zero_le _,rfl,rfl,HBo.out⟩);case round =>
    obtain⟨j,hj,rfl,hall,hb⟩:=hrel;by_cases hlt2:j<i
    ·have hr1:wr.rowIs gp _ N f:=hrw.of_block (hb.block gp hrw.lt);have k1:=hr1.cell (i:=i*3) (by omega);have k2:=hr1.cell (i:=j*3) (by omega);rw[(hpa i hlt).1] at k1;rw[(hpa j (by omega)).1] at k2;(have J1:(0:Int)<=(j:Int):=by omega);(have J2:(j:Int)<(ps.length:Int):=by omega);(have J3:(j:Int)<(i:Int):=by omega);have hsucc:=Ei (fun j=>!decide ((Ag ps i).fr=(Ag ps j).fr)) j;by_cases heq:(Ag ps i).fr=(Ag ps j).fr
     ·have hfalse:Bg zs n ps ps.length=false:=Fr zs n ps i _ hlt (by
       rw[EO,EI _ j i hlt2 (by simp[heq]),Bool.false_and])
      rw[heq] at k1;have HFA:Hid _:=hfalse;have HBj:Hid (Below _ _ _):=hb;clear hsucc heq hfalse hall hr1 hb hrw hpa;generalize (Ag ps j).fr=A at *;(go_wp2_with fail);(go_quiet (fail));(go_wp2_with fail);(go_ret2);exact⟨some ⟨gp,0,none⟩,c3,by rw[HFA.out];rfl,HROW.out.below (Cr HBj.out _),HBASE.out.trans ((Cr HBj.out _).mono (by omega))⟩
     ·(have hne:((Ag ps i).fr==(Ag ps j).fr)=false:=by simpa using heq);have hstep:(List.range (j+1)).all (fun j=>!decide ((Ag ps i).fr=(Ag ps j).fr))=true:=by
       rw[hsucc,hall];simp[heq]
      have HST:Hid _:=hstep;have HBj:Hid (Below _ _ _):=hb;clear hsucc heq hall hstep hr1 hb hrw hpa;(go_wp2_with fail);(go_quiet (fail));(go_wp2_with fail);go_roundw;(case rel=>exact⟨j+1,by omega,by go_num,HST.out,Cr HBj.out _⟩);case measure=>simp[intOf];omega
    ·(have e:j=i:=by omega);subst e;have hfr:EO ps j=true:=hall;have HFR:Hid _:=hfr;have HBj:Hid (Below _ _ _):=hb;clear hall hfr hb;have hsu:=JI zs n ps j;rw[HTR.out,HFR.out,Bool.true_and,Bool.true_and] at hsu;have HSU:Hid _:=hsu;clear hsu;(go_wp2_with fail);(go_loopw [8] (fun kv wr=>∃k:Nat,k<=16/\kv=.int .i64 k/\(List.range k).all (D7 zs n (Ag ps j))=true/\Below w3.heap.size w3 wr) (fun kv _=>16-(intOf kv).toNat));(case atStart=>exact⟨0,Nat.zero_le _,rfl,rfl,HBj.out⟩);case round =>
      obtain⟨k,hk,rfl,hall,hb⟩:=hrel;by_cases hlt3:k<16
      ·obtain⟨F,hF,hF2⟩:=HPS.out.ok j hlt;have hr1:wr.rowIs gp _ N f:=hrw.of_block (hb.block gp hrw.lt);have hgp:=hr1.lt;have k1:=hr1.cell (i:=j*3) (by omega);have k2:=hr1.cell (i:=j*3+1) (by omega);rw[(hpa j hlt).1] at k1;rw[(hpa j hlt).2.1] at k2;have hgr:At wr g zs:=HG.out.below hb HG.out.lt;have hgl:=hgr.lt;have cw:=hgr.cell (i:=F*16+k) (by omega);(have ew:zs.getD (F*16+k) 0=A7 zs (Ag ps j).fr k:=by simp[A7,hF];congr 1);rw[ew] at cw;have c0:=(hb.cell (p:=⟨w.heap.size,0,none⟩) (by simpa using hsz0)).trans HB.out;have hdk:=HD.out j k hlt hlt3;have hsz:=hb.size;have hsw:=Ei (D7 zs n (Ag ps j)) k
       have hfa:D7 zs n (Ag ps j) k=false->Bg zs n ps ps.length=false:=fun h=>Fr zs n ps j _ hlt (by
        rw[Cn,EI _ k 16 hlt3 h,Bool.and_false])
       have hsk:D7 zs n (Ag ps j) k=!(decide (AJ (Ag ps j).lv (A7 zs (Ag ps j).fr k)=4)||(decide (AJ (Ag ps j).lv (A7 zs (Ag ps j).fr k)=1)&&decide (n<=AV (Ag ps j).lv (A7 zs (Ag ps j).fr k)))):=rfl;rw[hF] at k1;rw[hall,Bool.true_and] at hsw;have HSW:Hid _:=hsw;have HFA:Hid _:=hfa;have HBk:Hid (Below _ _ _):=hb;have dO:=Cd (Ag ps j).lv (A7 zs (Ag ps j).fr k);clear ew hsw hfa hall hr1 hgr hb hrw hpa hF;generalize A7 zs (Ag ps j).fr k=X at *;generalize AJ (Ag ps j).lv X=K at *;generalize AV (Ag ps j).lv X=O at *;generalize B6 (Ag ps j).lv X=M at *;generalize (Ag ps j).lv=L at *;have HSK:Hid _:=hsk;clear hsk;(have L1:(0:Int)<=(F:Int)*16+(k:Int):=by omega);(have L2:(F:Int)*16+(k:Int)<(zs.length:Int):=by omega);(have W1:IntKind.i64.wrap ((F:Int)*16)=(F:Int)*16:=by rw[IntKind.wrap_i64];omega);(have W2:IntKind.i64.wrap ((F:Int)*16+(k:Int))=(F:Int)*16+(k:Int):=by rw[IntKind.wrap_i64];omega);(have T1:((F:Int)*16+(k:Int)).toNat=F*16+k:=by omega);(go_upto_region 16 with fail);(go_cut [9] (fun d9 wx=>∃D,d9=.pointer (some ⟨D,0,none⟩)/\wx.cell? ⟨D,0,none⟩=some (.int .i64 K)/\wx.cell? ⟨D,1,none⟩=some (.int .i64 O)/\Below wr.heap.size wr wx));case first =>
        have HK:Hid (∀wX,Below wr.heap.size wr wX->wX.cell? ⟨gp,j*3,none⟩=some (.int .i64 F)/\wX.cell? ⟨gp,j*3+1,none⟩=some (.int .i64 L)/\wX.cell? ⟨w.heap.size,0,none⟩=some (.slice (some ⟨g,0,none⟩) zs.length c)/\wX.cell? ⟨g,F*16+k,none⟩=some (.int .u64 X)) :=
         fun wX h=>⟨(h.cell (by simpa using hgp)).trans k1,(h.cell (by simpa using hgp)).trans k2,(h.cell (by simp;omega)).trans c0,(h.cell (by simpa using hgl)).trans cw⟩
        go_region_held3 (fun w'=>w'.cell? ⟨gp,j*3,none⟩=some (.int .i64 F)/\w'.cell? ⟨gp,j*3+1,none⟩=some (.int .i64 L)/\w'.cell? ⟨w.heap.size,0,none⟩=some (.slice (some ⟨g,0,none⟩) zs.length c)/\w'.cell? ⟨g,F*16+k,none⟩=some (.int .u64 X))
         ((refine HK.out _ ?_;repeat (first|exact Below.refl _ _|with_reducible refine Below.drew ?_|with_reducible refine Below.setCell ?_ (by first|omega|(simp<;>omega)) _|with_reducible refine Below.alloc ?_ (by first|omega|(simp<;>omega)) _|refine Below.trans ?_ (hb1.mono (by first|omega|(simp<;>omega))))))
         (first|(go_at_call 62;refine(hdk _).mono ?_;rintro e w1 ⟨rfl,hb1⟩;obtain⟨hc1,hf1⟩:=JB hb1;have hz1:=hb1.size;simp at hz1))
        all_goals
         go_wp2_with fail
         go_meet
         case rel =>
          refine⟨_,rfl,?_,?_,?_⟩
          ·simp[go_sem,hc1]
          ·simp[go_sem,hc1]
          ·repeat (first|exact Below.refl _ _|with_reducible refine Below.drew ?_|with_reducible refine Below.setCell ?_ (by first|omega|(simp<;>omega)) _|with_reducible refine Below.alloc ?_ (by first|omega|(simp<;>omega)) _|refine Below.trans ?_ (hb1.mono (by first|omega|(simp<;>omega))))
       case rest =>
        obtain⟨D,rfl,d0,d1,hbx⟩:=hcut;have hbxx:Below w3.heap.size w3 wc:=HBk.out.trans (hbx.mono hsz);have HBXX:Hid (Below _ _ _):=hbxx;clear k1 k2 c0 cw hdk W1 W2 T1 L1 L2 hbx hbxx;by_cases hK4:K=4
        ·subst hK4;have HFA2:Hid (Bg zs n ps ps.length=false):=HFA.out (by rw[HSK.out];simp);clear HFA HSW HSK;(go_wp2_with fail);(go_ret2);exact⟨some ⟨gp,0,none⟩,c3,by rw[HFA2.out];rfl,HROW.out.below HBXX.out,HBASE.out.trans (HBXX.out.mono (by omega))⟩
        ·by_cases hK1:K=1
         ·subst hK1;by_cases hO:n<=O
          ·(have hO':decide (n<=O)=true:=by simpa using hO);have HFA2:Hid (Bg zs n ps ps.length=false):=HFA.out (by rw[HSK.out];simp[hO]);clear HFA HSW HSK;(go_wp2_with fail);(go_ret2);exact⟨some ⟨gp,0,none⟩,c3,by rw[HFA2.out];rfl,HROW.out.below HBXX.out,HBASE.out.trans (HBXX.out.mono (by omega))⟩
          ·(have hO':decide (n<=O)=false:=by simpa using hO);have HST:Hid ((List.range (k+1)).all (D7 zs n (Ag ps j))=true):=by
            exact(show _=true by rw[HSW.out,HSK.out];simp[hO])
           clear HFA HSW HSK;(go_wp2_with fail);go_roundw;(case rel=>exact⟨k+1,by omega,by go_num,HST.out,HBXX.out⟩);case measure=>simp[intOf];omega
         ·(have hK4':(K==4)=false:=by simpa using hK4);(have hK1':(K==1)=false:=by simpa using hK1);have HST:Hid ((List.range (k+1)).all (D7 zs n (Ag ps j))=true):=by
           exact(show _=true by rw[HSW.out,HSK.out];simp[hK4,hK1])
          clear HFA HSW HSK;(go_wp2_with fail);go_roundw;(case rel=>exact⟨k+1,by omega,by go_num,HST.out,HBXX.out⟩);case measure=>simp[intOf];omega
      ·(have e:k=16:=by omega);subst e;(have hT:Bg zs n ps (j+1)=true:=by rw[HSU.out];exact hall);have HT:Hid _:=hT;clear hT hall;(go_wp2_with fail);go_roundw;(case rel=>exact⟨j+1,by omega,by go_num,HT.out,hb⟩);case measure=>simp[intOf];omega
  ·(have e:i=ps.length:=by omega);subst e;have HT:Hid _:=htr;clear htr;(go_wp2_with fail);(go_ret2);exact⟨some ⟨gp,0,none⟩,c3,by rw[HT.out];rfl,HROW.out.below hb,HBASE.out.trans (hb.mono (by omega))⟩
end Go.Proofs.YtnmhkgmmpkjjeaaGreat
