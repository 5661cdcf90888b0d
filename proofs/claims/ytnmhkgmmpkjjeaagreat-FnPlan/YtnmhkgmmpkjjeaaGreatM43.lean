import Derived.Test.YtnmhkgmmpkjjeaaGreatM33
import Derived.Test.YtnmhkgmmpkjjeaaGreatM42
import Derived.Deep.RegionLaw
namespace Go.Proofs.YtnmhkgmmpkjjeaaGreat
open ChangeShapes WideShapes ChangeAt RowKit Proofs.Tryz
set_option linter.all false
set_option maxRecDepth 100000
set_option maxHeartbeats 4000000
structure YS where
 m:List Int
 l:List Int
 k:Nat
def Cq (s:YS) (o:BP):YS:=if o.kind=1 then ⟨s.m,s.l.set o.a.toNat o.word,s.k+1⟩ else if o.kind=2 then ⟨s.l,s.l,0⟩ else s
def Do (s:YS) (l:List BP):YS:=l.foldl Cq s
def VU (L:List Int) (o:BP):Prop:=o.word%2=0\/o.word=L.getD o.a.toNat 0\/L.getD o.a.toNat 0%2=0\/∀q∈A7 L,q.fr≠o.a/16
def Y6 (n:Nat) (s:YS) (o:BP):Prop :=
 (o.kind=1/\0<=o.a/\o.a<(n*16:Nat)/\o.b=0/\s.k<10000/\VU s.l o)\/(o.kind=2/\o.a=0/\o.b=0/\o.word=0) \/
 (o.kind=3/\0<=o.a/\1<=o.b/\o.a+o.b<=4096/\o.word=0) \/
 (o.kind=4/\0<=o.a/\o.a<n/\o.b=0/\o.word=0/\(∀q∈A7 s.m,q.fr≠o.a)/\∀q∈A7 s.l,q.fr≠o.a)
def Jb (n:Nat):YS->List BP->Prop
 | _,[]=>True
 | s,o :: r=>Y6 n s o/\Jb n (Cq s o) r
theorem FH(s:YS)(l m:List BP):Do s (l++m)=Do (Do s l) m:=by unfold Do;exact List.foldl_append
theorem Ec(n:Nat):∀(l m:List BP) (s:YS),Jb n s (l++m)↔Jb n s l/\Jb n (Do s l) m
 | [],m,s=>⟨fun h=>⟨trivial,h⟩,fun h=>h.2⟩
 | o :: l,m,s=>by
  show Y6 n s o/\Jb n (Cq s o) (l++m)↔(Y6 n s o/\Jb n (Cq s o) l)/\Jb n (Do (Cq s o) l) m;rw[Ec n l m (Cq s o),and_assoc]
theorem Lj(n:Nat)(C:List Int):∀(r a:List BP) (M:List Int) (k:Nat),(∀o∈r,o.kind=1/\0<=o.a/\o.a<(n*16:Nat)/\o.b=0)->k+r.length<=10000->(∀a' o r',a'++o :: r'=a++r->VU (D8 C a') o)->Jb n ⟨M,D8 C a,k⟩ r/\Do ⟨M,D8 C a,k⟩ r=⟨M,D8 C (a++r),k+r.length⟩
 | [],a,M,k,_,_,_=>⟨trivial,by rw[List.append_nil];rfl⟩
 | o :: r,a,M,k,h1,h2,h3=>by
  obtain⟨k1,k2,k3,k4⟩:=h1 o List.mem_cons_self;rw[List.length_cons] at h2;have e:Cq ⟨M,D8 C a,k⟩ o=⟨M,D8 C (a++[o]),k+1⟩:=by
   unfold Cq;rw[if_pos k1,Hg];show _=YS.mk M (Of (D8 C a) o) (k+1);unfold Of;rw[if_pos k1]
  obtain⟨i1,i2⟩:=Lj n C r (a++[o]) M (k+1) (fun x hx=>h1 x (List.mem_cons_of_mem _ hx)) (by omega) (fun a' x r' he=>h3 a' x r' (by rw[he,List.append_assoc];rfl));refine⟨⟨.inl ⟨k1,k2,k3,k4,by show k<10000;omega,h3 a o r rfl⟩,by rw[e];exact i1⟩,?_⟩;show Do (Cq ⟨M,D8 C a,k⟩ o) r=_;rw[e,i2,List.append_assoc,List.length_cons];show YS.mk _ _ _=YS.mk _ _ _;rw[show k+1+r.length=k+(r.length+1) by omega];rfl
theorem LJ(n:Nat)(C:List Int)(l:List BP)(h1:∀o∈l,o.kind=1/\0<=o.a/\o.a<(n*16:Nat)/\o.b=0)(h2:l.length<=10000)(h3:∀a' o r',a'++o :: r'=l->VU (D8 C a') o):Jb n ⟨C,C,0⟩ (BU l)/\Do ⟨C,C,0⟩ (BU l)=⟨D8 C l,D8 C l,0⟩:=by
 by_cases hl:l=[]
 ·subst hl;exact⟨trivial,rfl⟩
 ·obtain⟨i1,i2⟩:=Lj n C l [] C 0 h1 (by omega) h3;rw[EG hl,Ec,FH];have i2':Do ⟨C,C,0⟩ l=⟨C,D8 C l,0+l.length⟩:=i2;rw[i2'];exact⟨⟨i1,.inr (.inl ⟨rfl,rfl,rfl,rfl⟩),trivial⟩,rfl⟩
theorem Jq(n:Nat)(s:YS):∀l:List BP,(∀o∈l,o.kind≠1/\o.kind≠2/\Y6 n s o)->Jb n s l/\Do s l=s
 | [],_=>⟨trivial,rfl⟩
 | o :: l,h=>by
  obtain⟨h1,h2,h3⟩:=h o List.mem_cons_self;have e:Cq s o=s:=by unfold Cq;rw[if_neg h1,if_neg h2]
  obtain⟨i1,i2⟩:=Jq n s l (fun x hx=>h x (List.mem_cons_of_mem _ hx));exact⟨⟨h3,by rw[e];exact i1⟩,by show Do (Cq s o) l=s;rw[e];exact i2⟩
theorem QQ(kept:List P3):∀n,(Bf kept n).length<=n+(n+15)/16+(n+255)/256
 | 0=>by simp[Bf]
 | n+1=>by
  rw[Hi,List.length_append];have ih:=QQ kept n;have h3:=H4 kept n 3;have h2:(Dy kept n 2).length<=if n%16=0 then 1 else 0:=by
   unfold Dy;split
   ·rename_i h;rw[if_pos (show n%16=0 from h.1)];exact Nat.le_refl _
   ·exact Nat.zero_le _
  have h1:(Dy kept n 1).length<=if n%256=0 then 1 else 0:=by
   unfold Dy;split
   ·rename_i h;rw[if_pos (show n%256=0 from h.1)];exact Nat.le_refl _
   ·exact Nat.zero_le _
  unfold Lm;rw[List.length_append,List.length_append];split at h1<;>split at h2<;>omega
theorem RQ(f:Int)(i:Nat)(h:0<=f):(f*16+(i:Nat)).toNat=(f*16).toNat+i:=by omega
def DK (zs:List Int) (H:Nat->Ht):List Int:=D8 zs (Ac zs H (AW H (A7 zs)) (Bo H (A7 zs)))
theorem Ap.kfr{zs:List Int}{n:Nat}{H:Nat->Ht}(h:Ap zs n H){t:P3}(ht:t∈AF H (A7 zs)):t∈AW H (A7 zs)/\0<=t.fr/\t.fr<n:=by
 have ha:t∈AW H (A7 zs):=List.mem_append_left _ ht;exact⟨ha,h.all.fr t ha⟩
theorem Ap.len{zs:List Int}{n:Nat}{H:Nat->Ht}(h:Ap zs n H):zs.length=n*16:=by
 have h1:=h.pos;have h2:=Bz zs.length (by rw[h.nf];omega);rw[h.nf] at h2;omega
theorem Ap.brk_at{zs:List Int}{n:Nat}{H:Nat->Ht}(h:Ap zs n H){t:P3}(ht:t∈AF H (A7 zs)){i:Nat}(hi:i<16):AC (DK zs H) t.fr i=if GW zs H (AW H (A7 zs)) (CA t i)=true then 0 else AC zs t.fr i:=by
 obtain⟨ha,f0,f1⟩:=h.kfr ht;have hp:=h.pos;have hl:=h.len;unfold AC DK;rw[<- RQ t.fr i f0];by_cases hb:GW zs H (AW H (A7 zs)) (CA t i)=true
 ·rw[if_pos hb];refine Jc _ _ _ _ (by omega) (fun o ho _ _=>?_) ?_
  ·unfold Ac at ho;obtain⟨e,_,rfl⟩:=List.mem_map.1 ho;rfl
  ·refine⟨⟨1,(CA t i).ad,0,0⟩,?_,rfl,rfl⟩;unfold Ac;exact List.mem_map.2 ⟨CA t i,List.mem_filter.2 ⟨Rc (by omega) h.plc ht hi,hb⟩,rfl⟩
 ·rw[if_neg hb];refine Et _ _ _ (fun o ho _ he=>hb ?_);unfold Ac at ho;obtain⟨e,he1,rfl⟩:=List.mem_map.1 ho;obtain⟨he2,he3⟩:=List.mem_filter.1 he1;obtain⟨u,hu,j,hj,rfl⟩:=Je (by omega) h.plc he2;obtain⟨hua,u0,_⟩:=h.kfr hu;obtain⟨rfl,rfl⟩:=JZ (n:=n) h.all.dis hua ha hj hi u0 f0 he;exact he3
theorem Ap.brk_odd{zs:List Int}{n:Nat}{H:Nat->Ht}(h:Ap zs n H){t:P3}(ht:t∈AF H (A7 zs)){i:Nat}(hi:i<16)(ho:AC (DK zs H) t.fr i%2=1):AC (DK zs H) t.fr i=AC zs t.fr i/\AC zs t.fr i=C3 H (AW H (A7 zs)) t.lv (t.pg+i*BX t.lv):=by
 obtain⟨ha,f0,f1⟩:=h.kfr ht;rw[h.brk_at ht hi] at ho ⊢;by_cases hb:GW zs H (AW H (A7 zs)) (CA t i)=true
 ·rw[if_pos hb] at ho;cases ho
 ·rw[if_neg hb] at ho ⊢;refine⟨rfl,?_⟩;have e:Fl zs (CA t i).ad=AC zs t.fr i:=by
   unfold Fl AC;rw[<- RQ t.fr i f0];rfl
  unfold GW at hb;rw[e] at hb;by_cases hr:AC zs t.fr i=C3 H (AW H (A7 zs)) t.lv (t.pg+i*BX t.lv)
  ·exact hr
  ·exact absurd (decide_eq_true ⟨ho,hr⟩) hb
theorem Ie{n l x:Int}(h:Av n l x=true):x%2=1:=by
 have:=(G1 n l x).1 h;unfold AG at this;split at this
 ·omega
 ·split at this<;>omega
theorem Ap.brk_kept{zs:List Int}{n:Nat}{H:Nat->Ht}(h:Ap zs n H):∀q∈A7 (DK zs H),q∈AF H (A7 zs):=by
 have hn0:An zs.length≠0:=by rw[h.nf];have:=h.pos;omega
 have hbl:(DK zs H).length=zs.length:=DB _ _;have hroot:root∈AF H (A7 zs):=BB.2 ⟨(BI zs hn0 root).2 (.inl rfl),rfl⟩;have h2:∀i,i<16->Av n 1 (AC (DK zs H) 0 i)=true->Av n 1 (AC zs 0 i)=true/\AC (DK zs H) 0 i=AC zs 0 i/\Af zs root i∈AF H (A7 zs):=fun i hi hl=>by
  obtain⟨e1,e2⟩:=h.brk_odd hroot hi (Ie hl);have e1':AC (DK zs H) 0 i=AC zs 0 i:=e1;have hl':=hl;rw[e1'] at hl';refine⟨hl',e1',BB.2 ⟨(BI zs hn0 _).2 (.inr ⟨i,hi,by rw[h.nf];exact hl',.inl rfl⟩),?_⟩⟩;have e3:AC zs 0 i=C3 H (AW H (A7 zs)) 1 ((i*256:Nat):Int):=by
   (have e4:root.pg+(i:Int)*BX root.lv=((i*256:Nat):Int):=by show (0:Int)+(i:Int)*256=_;omega);rw[<- e4];exact e2
  rw[Vq] at e3;have hod:=Ie hl';have hf:0<=AI (AW H (A7 zs)) 2 ((i*256:Nat):Int):=by
   by_cases hc:AI (AW H (A7 zs)) 2 ((i*256:Nat):Int)<0
   ·rw[if_pos hc] at e3;rw[e3] at hod;cases hod
   ·omega
  have hnd:=h.now (l:=2) (P:=i*256) hf;rw[Cr];show nd H (2:Int).toNat ((i:Int)*256).toNat=true;rw[show ((i:Int)*256).toNat=i*256 by omega];exact hnd
 intro q hq;have hq':=(BI (DK zs H) (by rw[hbl];exact hn0) q).1 hq;rw[hbl,h.nf] at hq';rcases hq' with rfl|⟨i,hi,hl,hq'⟩
 ·exact hroot
 obtain⟨z1,z2,z3⟩:=h2 i hi hl;have eu:Af (DK zs H) root i=Af zs root i:=by rw[Cr,Cr,z2]
 rcases hq' with rfl|⟨j,hj,hl2,rfl⟩
 ·rw[eu];exact z3
 ·rw[z2] at hl2;have eF:(Af zs root i).fr=AX 1 (AC zs 0 i):=by rw[Cr]
  have eL:(Af zs root i).lv=2:=by rw[Cr]
  have eP:(Af zs root i).pg=(i:Int)*256:=by rw[Cr]
  rw[<- eF] at hl2;obtain⟨e1,e2⟩:=h.brk_odd z3 hj (Ie hl2);have hl3:=hl2;rw[e1] at hl3;have ee:Af (DK zs H) (Af (DK zs H) root i) j=Af zs (Af zs root i) j:=by
   rw[eu];unfold Af at e1 ⊢;dsimp only at e1 ⊢;rw[e1]
  rw[ee];refine BB.2 ⟨(BI zs hn0 _).2 (.inr ⟨i,hi,by rw[h.nf];exact z1,.inr ⟨j,hj,by rw[h.nf,<- eF];exact hl3,rfl⟩⟩),?_⟩;rw[eL,eP] at e2;have e3:AC zs (Af zs root i).fr j=C3 H (AW H (A7 zs)) 2 ((i*256+j*16:Nat):Int):=by
   (have e4:(i:Int)*256+(j:Int)*BX 2=((i*256+j*16:Nat):Int):=by show (i:Int)*256+(j:Int)*16=_;omega);rw[<- e4];exact e2
  rw[Ug] at e3;have hod:=Ie hl3;have hk:=((G1 _ _ _).1 hl3).1;have hP:i*256+j*16<4096:=by omega
  have hnd:nd H 3 (i*256+j*16)=true:=by
   by_cases hs:(H (i*256+j*16)).s=16
   ·rw[if_pos hs] at e3;have k1:(H (i*256+j*16)).k=1:=h.k16 hP hs;obtain⟨o0,o1,p0,p1,_⟩:=h.lay.one _ hP k1;have hb:=(h.lay.big _ hP hs).1;rw[show i*256+j*16-(i*256+j*16)%16=i*256+j*16 by omega] at hb;rw[e3,(N7 _ _ o0 o1 hb p0 p1).1] at hk;cases hk
   ·rw[if_neg hs] at e3;by_cases hc:AI (AW H (A7 zs)) 3 ((i*256+j*16:Nat):Int)<0
    ·rw[if_pos hc] at e3;rw[e3] at hod;cases hod
    ·exact h.now (l:=3) (P:=i*256+j*16) (Int.not_lt.1 hc)
  rw[Fh];show nd H (3:Int).toNat ((i:Int)*256+(j:Int)*16).toNat=true;rw[show ((i:Int)*256+(j:Int)*16).toNat=i*256+j*16 by omega];exact hnd
section
attribute [local go_sem ↓] wp_at_zero wp_at_succ
theorem PX(gu:Nat)(F L Q ix:Int)(w:World)(hg:gu<w.heap.size)(hl:L=1\/L=2\/L=3)(hq0:0<=Q)(hq1:Q<=20000)(hi0:0<=ix)(hi1:ix<16)(q3:w.cell? ⟨gu,3,none⟩=some (.slice none 0 0))(q4:w.cell? ⟨gu,4,none⟩=some (.slice none 0 0)):Calls prog 258 #[.pointer (some ⟨gu,0,none⟩),.agg #[.int .i64 F,.int .i64 L,.int .i64 Q],.int .i64 ix] w (AM w (.bool false)):=by
 have hcb:1<=BX L/\BX L<=256:=by rcases hl with rfl|rfl|rfl<;>decide
 have hmul:0<=ix*BX L/\ix*BX L<=3840:=by rcases hl with rfl|rfl|rfl<;>(simp only[BX];constructor<;>(simp;omega))
 obtain⟨wb,hwb⟩:∃wb,wb=w.alloc (.cells #[.int .i64 F,.int .i64 L,.int .i64 Q] 67):=⟨_,rfl⟩
 have hbb:Bl w wb:=by rw[hwb];exact AO
 have hep:=BJ L;have y3:=(hbb.cell (p:=⟨gu,3,none⟩) hg).trans q3;have y4:=(hbb.cell (p:=⟨gu,4,none⟩) hg).trans q4;have HWB:=A5 hwb;have HBB:=A5 hbb;generalize BX L=cL at *;have hW1:=AR (ix*cL);have hW2:=AR (Q+ix*cL);clear hwb hbb;go_enter func258,ntmps258
 go_wp2_with (go_at_call 168;refine(hep _).mono ?_;rintro e w1 ⟨rfl,hw1⟩;obtain rfl:=hw1.symm)
 rw[<- HWB.out];go_loopw [27] (fun i wr=>i=.int .i64 0/\wr=wb) (fun _ _=>0)
 case atStart=>exact⟨rfl,rfl⟩
 case round =>
  obtain⟨rfl,rfl⟩:=hrel;go_wp2_with fail
  go_loopw [41] (fun i wr'=>i=.int .i64 0/\wr'=wr) (fun _ _=>0)
  case atStart=>exact⟨rfl,rfl⟩
  case round =>
   obtain⟨rfl,rfl⟩:=hrel;(go_wp2_with fail);go_ret;exact⟨rfl,HBB.out⟩
theorem MC(gu g2 c2 A:Nat)(L:List Int)(Wd:Int)(w:World)(hg:gu<w.heap.size)(hA:A<L.length)(hw0:0<=Wd)(hw1:Wd<18446744073709551616)(hz:Cu L)(hcc:L.length<=c2)(hcr:BQ w g2 L)(hok:VU L ⟨1,A,0,Wd⟩)(q1:w.cell? ⟨gu,1,none⟩=some (.slice (some ⟨g2,0,none⟩) L.length c2))(q3:w.cell? ⟨gu,3,none⟩=some (.slice none 0 0))(q4:w.cell? ⟨gu,4,none⟩=some (.slice none 0 0)):Calls prog 237 #[.pointer (some ⟨gu,0,none⟩),.int .i64 (A:Int),.int .u64 Wd] w (AM w (.int .i64 0)):=by
 obtain⟨X,hX⟩:∃X,L.getD A 0=X:=⟨_,rfl⟩
 have hxc:=hcr.cell hA;have hxr:=hz.2 A;rw[hX] at hxc hxr;have hx1:X<18446744073709551616:=by have:=hxr.2;omega
 have HOK:Hid (Wd%2=0\/Wd=X\/X%2=0\/∀q∈A7 L,q.fr≠(A:Int)/16):=A6 (by
  have e:L.getD ((A:Int)).toNat 0=X:=by rw[Int.toNat_natCast];exact hX
  unfold VU at hok
  dsimp only at hok
  rw[e] at hok
  exact hok)
 have hpl:=GQ g2 L c2 hz hcc w hcr;have hle:=DD L;have HPK:Hid (∀i,i<(A7 L).length->_):=T6 L hz;have HMP:Hid (∀i,i<(A7 L).length->Aq (A7 L) i∈A7 L):=A6 fun i hi=>Ha _ i hi
 have HCA:Hid (∀F LV Q wX,Bl w wX->(LV=1\/LV=2\/LV=3)->0<=Q->Q<=20000->Calls prog 258 #[.pointer (some ⟨gu,0,none⟩),.agg #[.int .i64 F,.int .i64 LV,.int .i64 Q],.int .i64 ((A:Int)%16)] wX (AM wX (.bool false))):=A6 fun F LV Q wX hX h1 h2 h3=>PX gu F LV Q _ wX (Nat.lt_of_lt_of_le hg hX.size) h1 h2 h3 (by omega) (by omega) ((hX.cell (p:=⟨gu,3,none⟩) hg).trans q3) ((hX.cell (p:=⟨gu,4,none⟩) hg).trans q4)
 have and1:=IA Wd hw0 hw1;have and2:=IA X hxr.1 hx1;have hq:wrap64 ((A:Int)/16)=(A:Int)/16:=by have:=Bz L.length hz.n0;have:=Dv L.length;unfold wrap64;omega
 have L0:(0:Int)<=(A:Int):=by omega
 have L1:(A:Int)<(L.length:Int):=by omega
 generalize A7 L=ps at *;clear hok hX hz hcr hxr q3 q4;by_cases hwz:Wd%2=0
 ·have d0:(Wd%2==0)=true:=by simpa using hwz
  clear hwz hpl HOK;go_enter func237,ntmps237
  go_wp2_with fail
  go_ret;exact⟨rfl,AH⟩
 ·have d0:(Wd%2==0)=false:=by simpa using hwz
  by_cases hwx:Wd=X
  ·(have d1:(Wd==X)=true:=by simpa using hwx);clear hwz hwx hpl HOK;(go_enter func237,ntmps237);(go_wp2_with fail);go_ret;exact⟨rfl,AH⟩
  ·have d1:(Wd==X)=false:=by simpa using hwx
   have HO2:Hid (X%2=0\/∀q∈ps,q.fr≠(A:Int)/16):=A6 (by
    rcases HOK.out with h|h|h
    ·exact absurd h hwz
    ·exact absurd h hwx
    ·exact h)
   clear hwz hwx HOK;(go_enter func237,ntmps237);(go_wp2_with fail);refine hpl.mono ?_;rintro e w1 ⟨g1,c1,rfl,hr,hb1⟩;obtain⟨gp,hp1,hp2⟩:=Dg hr;have HP1:=A5 hp1;have HP2:=A5 hp2;have HB1:=A5 hb1;clear hb1 hpl hr hp1 hp2 hxc q1 and1 d0 d1;(go_wp2_with fail);(go_loopw [32] (fun i wr=>∃k:Nat,k<=ps.length/\i=.int .i64 k/\Bl w1 wr) (fun i _=>ps.length-(intOf i).toNat));(case atStart=>exact⟨0,Nat.zero_le _,rfl,AH⟩);case round =>
    obtain⟨k,hk,rfl,hb⟩:=hrel;by_cases hlt:k<ps.length
    ·have hmem:=HMP.out k hlt;have hpk:=HPK.out k hlt;(obtain⟨E,hE⟩:∃E,Aq ps k=E:=⟨_,rfl⟩);obtain⟨F,LV,Q⟩:=E;rw[hE] at hmem hpk;obtain⟨hge,hgl2⟩:=HP1.out (by omega);simp only[Option.some.injEq,Addr.mk.injEq,and_true] at hge;obtain rfl:=hge.symm;obtain⟨c0,c1,c2⟩:=HP2.out k F LV Q hlt hE wr hb;(have M1:(0:Int)<=(k:Int):=by omega);(have M2:(k:Int)<(ps.length:Int):=by omega);have hsz:=hb.size;(obtain⟨wx,hwx⟩:∃wx,wx=wr.alloc (.cells #[.int .i64 F,.int .i64 LV,.int .i64 Q] 67):=⟨_,rfl⟩);(have bx1:Bl w1 wx:=by rw[hwx];exact hb.alloc hsz _);have bx:Bl w wx:=Ab HB1.out bx1;have hca:=HCA.out F LV Q wx bx hpk.1 hpk.2.1 hpk.2.2;rw[hwx] at hca;have HWXX:=A5 hwx;have HBX1:=A5 bx1;by_cases hF:F=(A:Int)/16
     ·(have dF:(F != (A:Int)/16)=false:=by simpa using hF);have dX:(X%2 != 0)=false:=by
       rcases HO2.out with h|h
       ·simp[h]
       ·exact absurd hF (h _ hmem)
      clear hE hb hge hpk hwx bx bx1 hF hmem;(go_wp2_with fail);refine hca.mono ?_;rintro e w2 ⟨rfl,hb2⟩;(go_wp2_with fail);rw[<- HWXX.out] at hb2;go_roundw;(case rel=>exact⟨k+1,by omega,by go_num,Ab HBX1.out hb2⟩);case measure=>simp[intOf];omega
     ·(have dF:(F != (A:Int)/16)=true:=by simpa using hF);clear hE hb hge hpk hwx bx bx1 hF hca hmem;(go_wp2_with fail);rw[<- HWXX.out];go_roundw;(case rel=>exact⟨k+1,by omega,by go_num,HBX1.out⟩);case measure=>simp[intOf];omega
    ·(go_wp2_with fail);go_ret;exact⟨rfl,Ab HB1.out hb⟩
theorem Ob(gu g1 c1 g2 c2:Nat)(f:Int)(M L:List Int)(w:World)(hg:gu<w.heap.size)(hm:Cu M)(hl:Cu L)(hcm:M.length<=c1)(hcl:L.length<=c2)(hrm:BQ w g1 M)(hrl:BQ w g2 L)(h1:∀q∈A7 M,q.fr≠f)(h2:∀q∈A7 L,q.fr≠f)(q0:w.cell? ⟨gu,0,none⟩=some (.slice (some ⟨g1,0,none⟩) M.length c1))(q1:w.cell? ⟨gu,1,none⟩=some (.slice (some ⟨g2,0,none⟩) L.length c2))(q4:w.cell? ⟨gu,4,none⟩=some (.slice none 0 0)):Calls prog 238 #[.pointer (some ⟨gu,0,none⟩),.int .i64 f] w (AM w (.int .i64 0)):=by
 have no:∀ps:List P3,(∀q∈ps,q.fr≠f)->OQ ps f=false:=fun ps h=>Ko _ _ (fun j hj=>decide_eq_false (h _ (Ha ps j hj)))
 have t1:=Ki g1 M c1 f hm hcm w hrm;rw[no _ h1] at t1;have HT:Hid (∀wX,Bl w wX->Calls prog 259 #[.agg #[.slice (some ⟨g2,0,none⟩) L.length c2],.int .i64 f] wX (AM wX (.bool false))):=A6 fun wX hX=>by
  have:=Ki g2 L c2 f hl hcl wX (hrl.below hX hrl.lt);rw[no _ h2] at this;exact this
 have HQ:Hid (∀wX,Bl w wX->wX.cell? ⟨gu,1,none⟩=some (.slice (some ⟨g2,0,none⟩) L.length c2)/\wX.cell? ⟨gu,4,none⟩=some (.slice none 0 0)):=A6 fun wX hX=>⟨(hX.cell (p:=⟨gu,1,none⟩) hg).trans q1,(hX.cell (p:=⟨gu,4,none⟩) hg).trans q4⟩
 clear hm hl hrm hrl h1 h2 no q1 q4;go_enter func238,ntmps238
 go_wp2_with fail
 refine t1.mono ?_;rintro e w1 ⟨rfl,hb1⟩;obtain⟨y1,_⟩:=HQ.out w1 hb1;have HB1:=A5 hb1;clear t1 hb1 q0;go_wp2_with fail
 refine(HT.out w1 HB1.out).mono ?_;rintro e w2 ⟨rfl,hb2⟩;have HB2:=A5 (Ab HB1.out hb2);obtain⟨_,y4⟩:=HQ.out w2 HB2.out;clear hb2 y1;go_wp2_with fail
 go_loopw [26] (fun i wr=>i=.int .i64 0/\wr=w2) (fun _ _=>0)
 case atStart=>exact⟨rfl,rfl⟩
 case round =>
  obtain⟨rfl,rfl⟩:=hrel;go_wp2_with fail
  go_ret;exact⟨rfl,HB2.out⟩
structure XU (W:World) (gu b0:Nat) (s:YS) (g1 c1 g2 c2:Nat) (a3:Option Addr) (c3:Nat) (P:List BS):Prop where
 lo:b0<=gu
 lt:gu<W.heap.size
 q0:W.cell? ⟨gu,0,none⟩=some (.slice (some ⟨g1,0,none⟩) s.m.length c1)
 q1:W.cell? ⟨gu,1,none⟩=some (.slice (some ⟨g2,0,none⟩) s.l.length c2)
 q2:W.cell? ⟨gu,2,none⟩=some (.slice a3 P.length c3)
 q3:W.cell? ⟨gu,3,none⟩=some (.slice none 0 0)
 q4:W.cell? ⟨gu,4,none⟩=some (.slice none 0 0)
 fz:∀i,W.frozen? ⟨gu,i,none⟩=false
 r1:A8 AY W b0 (.slice (some ⟨g1,0,none⟩) s.m.length c1) s.m
 r2:A8 AY W b0 (.slice (some ⟨g2,0,none⟩) s.l.length c2) s.l
 r3:A8 Cz W b0 (.slice a3 P.length c3) P
 pk:P.length=s.k
 ml:s.m.length=s.l.length
 n12:g1≠g2
 nu1:gu≠g1
 nu2:gu≠g2
 n3:∀k,Jn a3=some k->k≠gu/\k≠g1/\k≠g2
def Py (gu g1 g2:Nat) (a3:Option Addr) (k:Nat):Prop:=k=gu\/k=g1\/k=g2\/Jn a3=some k
theorem XU.below{W W':World}{gu b0:Nat}{s:YS}{g1 c1 g2 c2:Nat}{a3:Option Addr}{c3:Nat}{P:List BS}(h:XU W gu b0 s g1 c1 g2 c2 a3 c3 P)(hb:Bl W W'):XU W' gu b0 s g1 c1 g2 c2 a3 c3 P :=
 ⟨h.lo,Nat.lt_of_lt_of_le h.lt hb.size,(hb.cell (p:=⟨gu,0,none⟩) h.lt).trans h.q0,(hb.cell (p:=⟨gu,1,none⟩) h.lt).trans h.q1,(hb.cell (p:=⟨gu,2,none⟩) h.lt).trans h.q2,(hb.cell (p:=⟨gu,3,none⟩) h.lt).trans h.q3,(hb.cell (p:=⟨gu,4,none⟩) h.lt).trans h.q4,fun i=>(hb.frozen (p:=⟨gu,i,none⟩) h.lt).trans (h.fz i),h.r1.below hb,h.r2.below hb,h.r3.below hb,h.pk,h.ml,h.n12,h.nu1,h.nu2,h.n3⟩
theorem XU.g1lt{W:World}{gu b0:Nat}{s:YS}{g1 c1 g2 c2:Nat}{a3:Option Addr}{c3:Nat}{P:List BS}(h:XU W gu b0 s g1 c1 g2 c2 a3 c3 P):(b0<=g1/\g1<W.heap.size)/\(b0<=g2/\g2<W.heap.size)/\∀k,Jn a3=some k->b0<=k/\k<W.heap.size:=⟨h.r1.own g1 rfl,h.r2.own g2 rfl,fun k hk=>h.r3.ownA k hk⟩
theorem XU.wrote{W wn:World}{gu b0:Nat}{s:YS}{g1 c1 g2 c2:Nat}{a3:Option Addr}{c3:Nat}{P:List BS}{A g3 cap3:Nat}{wd:Int}(h:XU W gu b0 s g1 c1 g2 c2 a3 c3 P)(hA:A<s.l.length)(hg:W.grownBy wn (Jn a3))(hnew:A8 Cz wn b0 (.slice (some ⟨g3,0,none⟩) (P++[(⟨A,wd⟩:BS)]).length cap3) (P++[(⟨A,wd⟩:BS)]))(hat:Jn a3=some g3\/W.heap.size<=g3):XU ((wn.setCell ⟨gu,2,none⟩ (.slice (some ⟨g3,0,none⟩) (P++[(⟨A,wd⟩:BS)]).length cap3)).setCell ⟨g2,A,none⟩ (.int .u64 wd)) gu b0 ⟨s.m,s.l.set A wd,s.k+1⟩ g1 c1 g2 c2 (some ⟨g3,0,none⟩) cap3 (P++[(⟨A,wd⟩:BS)])/\BF (Py gu g1 g2 a3) W ((wn.setCell ⟨gu,2,none⟩ (.slice (some ⟨g3,0,none⟩) (P++[(⟨A,wd⟩:BS)]).length cap3)).setCell ⟨g2,A,none⟩ (.int .u64 wd)):=by
 obtain⟨⟨_,l1⟩,⟨_,l2⟩,l3⟩:=h.g1lt;have hlt:=h.lt;have hnu:=h.nu2;have hne:∀k,Jn a3=some k->k≠gu/\k≠g1/\k≠g2:=h.n3
 have h3:g3≠gu/\g3≠g1/\g3≠g2:=by
  rcases hat with e|e
  ·exact hne g3 e
  ·omega
 have hbu:wn.heap[gu]?=W.heap[gu]?:=hg.block gu hlt (fun e=>(hne gu e.symm).1 rfl);have cu:∀i,i≠2->((wn.setCell ⟨gu,2,none⟩ (.slice (some ⟨g3,0,none⟩) (P++[(⟨A,wd⟩:BS)]).length cap3)).setCell ⟨g2,A,none⟩ (.int .u64 wd)).cell? ⟨gu,i,none⟩=W.cell? ⟨gu,i,none⟩:=fun i hi=>by
  rw[World.cell?_setCell_other _ _ _ _ (fun e=>by simp only[Addr.mk.injEq] at e;omega),World.cell?_setCell_other _ _ _ _ (fun e=>by simp only[Addr.mk.injEq] at e;omega)];exact World.cell?_of_block hbu
 have kp:∀{α:Type} {E:Dw α} {x n c:Nat} {xs:List α} (w:World) (g i:Nat) (u:Value),A8 E w b0 (.slice (some ⟨x,0,none⟩) n c) xs->x≠g->A8 E (w.setCell ⟨g,i,none⟩ u) b0 (.slice (some ⟨x,0,none⟩) n c) xs:=fun w g i u hr hk=>A8.kept hr (B7 (World.grownBy.refl _ _) i u) (fun k hk2 e=>hk (by injection hk2 with e1;injection e with e2;exact e1.trans e2))
 have r1n:=h.r1.kept hg (fun k hk e=>by
  have:k=g1:=by simpa [Value.ownBlock] using hk.symm
  exact(hne k e.symm).2.1 this)
 have r2n:=h.r2.kept hg (fun k hk e=>by
  have:k=g2:=by simpa [Value.ownBlock] using hk.symm
  exact(hne k e.symm).2.2 this)
 refine⟨⟨h.lo,?_,(cu 0 (by omega)).trans h.q0,?_,?_,(cu 3 (by omega)).trans h.q3,(cu 4 (by omega)).trans h.q4,fun i=>?_,?_,?_,?_,?_,?_,h.n12,h.nu1,h.nu2,?_⟩,?_⟩
 ·simp;exact Nat.lt_of_lt_of_le hlt hg.size
 ·rw[List.length_set];exact(cu 1 (by omega)).trans h.q1
 ·rw[World.cell?_setCell_other _ _ _ _ (fun e=>by simp only[Addr.mk.injEq] at e;omega)];exact World.cell?_setCell_same _ _ _ ((World.cell?_of_block hbu).trans h.q2)
 ·rw[World.frozen?_setCell,World.frozen?_setCell];exact(World.frozen?_of_block (a:=⟨gu,i,none⟩) hbu).trans (h.fz i)
 ·exact kp _ g2 A _ (kp wn gu 2 _ r1n h.nu1.symm) h.n12
 ·have r2m:=kp wn gu 2 (.slice (some ⟨g3,0,none⟩) (P++[(⟨A,wd⟩:BS)]).length cap3) r2n h.nu2.symm;show A8 AY _ b0 (.slice (some ⟨g2,0,none⟩) (s.l.set A wd).length c2) (s.l.set A wd);rw[List.length_set];exact r2m.setW hA
 ·exact kp _ g2 A _ (kp wn gu 2 _ hnew h3.1) h3.2.2
 ·rw[List.length_append,h.pk];rfl
 ·show s.m.length=(s.l.set A wd).length;rw[List.length_set];exact h.ml
 ·intro k hk;have:k=g3:=by simpa [Jn,Value.ownBlock] using hk.symm
  rw[this];exact h3
 ·refine⟨hg.os,hg.tape,hg.output,by simpa using hg.size,fun k hk hn=>?_⟩;unfold Py at hn;rw[Below.heap_setCell _ _ _ _ (fun e=>hn (.inr (.inr (.inl e)))),Below.heap_setCell _ _ _ _ (fun e=>hn (.inl e))];exact hg.block k hk (fun e=>hn (.inr (.inr (.inr e.symm))))
theorem NF(gu b0:Nat)(s:YS)(g1 c1 g2 c2:Nat)(a3:Option Addr)(c3:Nat)(P:List BS)(K0 B0 wd:Int)(A:Nat)(w:World)(hA:A<s.l.length)(hml:s.l.length<=8192)(hp:P.length<10000)(h:XU w gu b0 s g1 c1 g2 c2 a3 c3 P):Calls prog 294 #[.agg #[.int .i64 K0,.int .i64 A,.int .i64 B0,.int .u64 wd],.pointer (some ⟨gu,0,none⟩)] w fun e w'=>e=.returned (.tuple #[])/\∃g3 cap3,XU w' gu b0 ⟨s.m,s.l.set A wd,s.k+1⟩ g1 c1 g2 c2 (some ⟨g3,0,none⟩) cap3 (P++[(⟨A,wd⟩:BS)])/\BF (Py gu g1 g2 a3) w w'/\(Jn a3=some g3\/w.heap.size<=g3):=by
 obtain⟨iE,hiE,hz0,hz1,hz2⟩:=info_parts Mw;obtain⟨wb,hwb⟩:∃wb,wb=w.alloc (.cells #[.int .i64 K0,.int .i64 A,.int .i64 B0,.int .u64 wd] 324):=⟨_,rfl⟩
 have hbb:Bl w wb:=by rw[hwb];exact AO
 have hzb:wb.heap.size=w.heap.size+1:=by rw[hwb];simp
 have hub:=h.below hbb;obtain⟨⟨_,l1⟩,⟨lo2,g2l⟩,hl3⟩:=h.g1lt;have b0l:b0<=w.heap.size:=by have:=h.lo;have:=h.lt;omega
 have bx0:wb.cell? ⟨w.heap.size,1,none⟩=some (.int .i64 A)/\wb.cell? ⟨w.heap.size,3,none⟩=some (.int .u64 wd):=by rw[hwb];constructor<;>simp[go_sem]
 obtain⟨wx,hwx⟩:∃wx,wx=wb.drew.alloc (.cells #[.int .i64 A,.int .u64 wd] 188):=⟨_,rfl⟩
 have bxx:Bl wb wx:=by rw[hwx];exact AH.drew.alloc (by simp) _
 have hux:=hub.below bxx;have hzx:wx.heap.size=wb.heap.size+1:=by rw[hwx];simp
 have HKB:Hid (∀wX,Bl wb wX->wX.cell? ⟨w.heap.size,1,none⟩=some (.int .i64 A)/\wX.cell? ⟨w.heap.size,3,none⟩=some (.int .u64 wd)):=fun wX hX=>⟨(hX.cell (by simp;omega)).trans bx0.1,(hX.cell (by simp;omega)).trans bx0.2⟩
 have HKG:Hid (∀wX,wx.grownBy wX (Jn a3)->wX.cell? ⟨w.heap.size,1,none⟩=some (.int .i64 A)/\wX.cell? ⟨w.heap.size,3,none⟩=some (.int .u64 wd)):=fun wX hX=>by
  have hk:=hX.block w.heap.size (by omega) (fun e=>by have:=(hl3 w.heap.size e.symm).2;omega);exact⟨(World.cell?_of_block hk).trans (HKB.out wx bxx).1,(World.cell?_of_block hk).trans (HKB.out wx bxx).2⟩
 have HKS:Hid (∀wX,wx.grownBy wX (Jn a3)->∀v,(wX.setCell ⟨gu,2,none⟩ v).cell? ⟨w.heap.size,1,none⟩=some (.int .i64 A)/\(wX.setCell ⟨gu,2,none⟩ v).cell? ⟨w.heap.size,3,none⟩=some (.int .u64 wd)):=fun wX hX v=>by
  have hk:(wX.setCell ⟨gu,2,none⟩ v).heap[w.heap.size]?=wX.heap[w.heap.size]?:=Below.heap_setCell _ _ _ _ (by have:=h.lt;show ¬w.heap.size=gu;omega);exact⟨(World.cell?_of_block hk).trans (HKG.out wX hX).1,(World.cell?_of_block hk).trans (HKG.out wX hX).2⟩
 have HOWN:=A5 hux.r3;have HNEWS:Hid (∀j v,([.int .i64 A,.int .u64 wd]:List Value)[j]?=some v->wx.cell? ((⟨wb.heap.size,0,none⟩:Addr).add j)=some v):=by
  rw[hwx];exact World.news_of_block (heap_alloc_new wb.drew (.cells #[.int .i64 A,.int .u64 wd] 188))
 have HQ2:=A5 hux.q2;have HF2:Hid (wx.frozen? ⟨gu,2,none⟩=false):=hux.fz 2;have HG3:Hid (Jn a3≠some gu):=fun e=>(h.n3 gu e).1 rfl
 have q2b:=hub.q2;have hlt:=h.lt;have HFIN:Hid (∀g3 cap3 (wn:World),wn.ownsRow b0 188 2 (.slice (some ⟨g3,0,none⟩) (P.length+1) cap3) (P.length+1) (AK Cz P++[.int .i64 A,.int .u64 wd])->wx.grownBy wn (Jn a3)->(Jn a3=some g3\/g3=wb.heap.size+1)->∃g3' cap3',XU ((wn.setCell ⟨gu,2,none⟩ (.slice (some ⟨g3,0,none⟩) (P.length+1) cap3)).setCell ⟨g2,A,none⟩ (.int .u64 wd)) gu b0 ⟨s.m,s.l.set A wd,s.k+1⟩ g1 c1 g2 c2 (some ⟨g3',0,none⟩) cap3' (P++[(⟨A,wd⟩:BS)])/\BF (Py gu g1 g2 a3) w ((wn.setCell ⟨gu,2,none⟩ (.slice (some ⟨g3,0,none⟩) (P.length+1) cap3)).setCell ⟨g2,A,none⟩ (.int .u64 wd))/\(Jn a3=some g3'\/w.heap.size<=g3')):=fun g3 cap3 wn hown hgrow hat=>by
  have hl:(P++[(⟨A,wd⟩:BS)]).length=P.length+1:=by simp
  have hnew:A8 Cz wn b0 (.slice (some ⟨g3,0,none⟩) (P++[(⟨A,wd⟩:BS)]).length cap3) (P++[(⟨A,wd⟩:BS)]):=by
   rw[hl];exact A8.snocL (m:=P.length+1) rfl hown
  have hW:=XU.wrote hux hA hgrow hnew (hat.imp id (fun h'=>by omega));rw[hl] at hW;exact⟨g3,cap3,hW.1,(BF.of_below (hbb.trans (bxx.mono (by omega)))).then hW.2 (fun k _ hk=>hk),hat.imp id (fun h'=>by omega)⟩
 have HQ1:Hid (∀wn:World,wx.grownBy wn (Jn a3)->wn.cell? ⟨gu,1,none⟩=some (.slice (some ⟨g2,0,none⟩) s.l.length c2)):=fun wn hg=>by
  rw[World.cell?_of_block (a:=⟨gu,1,none⟩) (hg.block gu (by omega) (fun e=>(h.n3 gu e.symm).1 rfl))];exact hux.q1
 have HC2:Hid (∀wn:World,wx.grownBy wn (Jn a3)->wn.cell? ⟨g2,A,none⟩=some (.int .u64 (s.l.getD A 0))/\wn.frozen? ⟨g2,A,none⟩=false):=fun wn hg=>by
  have hk:=hg.block g2 (by omega) (fun e=>(h.n3 g2 e.symm).2.2 rfl);obtain⟨e1,e2,_,_⟩:=FL hux.r2 hA;exact⟨(World.cell?_of_block hk).trans e1,(World.frozen?_of_block hk).trans e2⟩
 have hg2ne:¬g2=gu:=fun e=>h.nu2 e.symm
 have HWB:=A5 hwb;have HZB:=A5 hzb;have hgub:gu<wb.heap.size:=by omega
 have hb0b:b0<=wb.heap.size:=by omega
 have L1:(0:Int)<=(A:Int):=by omega
 have L2:(A:Int)<(s.l.length:Int):=by omega
 rw[hwx] at HKG HKS HOWN HNEWS HQ2 HF2 HFIN HQ1 HC2;clear h hub hux hbb bxx hwb hwx hzb hzx hl3 bx0;go_enter func294,ntmps294
 go_wp2_with fail
 rw[<- HWB.out];go_cut [2] (fun d wy=>d=.pointer (some ⟨w.heap.size,0,none⟩)/\∃g3 cap3 wn,wn.ownsRow b0 188 2 (.slice (some ⟨g3,0,none⟩) (P.length+1) cap3) (P.length+1) (AK Cz P++[.int .i64 A,.int .u64 wd])/\(wb.drew.alloc (.cells #[.int .i64 A,.int .u64 wd] 188)).grownBy wn (Jn a3)/\((Jn a3)=some g3\/g3=wb.heap.size+1)/\wy=wn.setCell ⟨gu,2,none⟩ (.slice (some ⟨g3,0,none⟩) (P.length+1) cap3))
 case first =>
  refine wp_region_held_drew (S:=(fun wX=>wX.cell? ⟨w.heap.size,1,none⟩=some (.int .i64 A)/\wX.cell? ⟨w.heap.size,3,none⟩=some (.int .u64 wd))) (by kernel_rfl) (HKB.out _ (AH.drew)) (fun hHeld=>?_);refine tk 0 ?_;refine tk 1 ?_;refine tk 2 ?_;refine tk 3 ?_;refine tk 5 ?_;refine tk 6 ?_;refine tk 7 ?_;refine tk 8 ?_;refine tk 9 ?_;refine wpAnyH_ready (rs:=[4,10]) (by kernel_rfl) (by simp) ?_;refine AllReadyH.cons rfl (fun K hK=>?_) (AllReadyH.cons rfl (fun K hK=>?_) AllReadyH.nil)
  ·go_simp;refine hK.out _ _ (HKB.out _ (AH.drew)) (fun hHeld2=>?_);clear hK K;(refine Aj 10 fun K hK=>?_);go_simp;refine hK.out _ _ (HKB.out _ (AH.drew.alloc (by simp) _)) (fun hHeld3=>?_);clear hK K;(refine Aj 11 fun K hK=>?_);refine step_append_lies _ (by rfl) (.tmp 8) (.tmp 14) 42 (by rfl) b0 188 iE _ 2 16 underlying42 hiE hz0 hz1 hz2 rfl (by omega) _ _ _ (by rfl) HOWN.out ⟨wb.heap.size,0,none⟩ 1 1 [.int .i64 A,.int .u64 wd] (by rfl) rfl HNEWS.out (by intro v hv;simp at hv;rcases hv with rfl|rfl<;>rfl) (by omega) (by unfold maxLen;omega) (by omega) (by simp;omega) (wb.heap.size+1) (by simp) ?_;intro g3 cap3 wn hown hgrow hat hlt3;rw[Jd] at hgrow hat;refine hK.out _ _ (HKG.out wn hgrow) (fun hHeld4=>?_);clear hK K;have cq2:=(World.cell?_of_block (a:=⟨gu,2,none⟩) (hgrow.block gu (by simp;omega) (fun e=>HG3.out e.symm))).trans HQ2.out;have cf2:=(World.frozen?_of_block (a:=⟨gu,2,none⟩) (hgrow.block gu (by simp;omega) (fun e=>HG3.out e.symm))).trans HF2.out;refine tk 12 ?_;refine tk 13 ?_;(refine Aj 14 fun K hK=>?_);go_simp;refine hK.out _ _ (HKS.out wn hgrow _) (fun hHeld5=>?_);clear hK K;refine AZ ?_;(go_wp2_with fail);(go_meet);case rel=>exact⟨rfl,g3,cap3,wn,hown,hgrow,hat,rfl⟩
  ·go_simp;refine hK.out _ _ (HKB.out _ (AH.drew.alloc (by simp) _)) (fun hHeld2=>?_);clear hK K;(refine Aj 4 fun K hK=>?_);go_simp;refine hK.out _ _ (HKB.out _ (AH.drew.alloc (by simp) _)) (fun hHeld3=>?_);clear hK K;(refine Aj 11 fun K hK=>?_);refine step_append_lies _ (by rfl) (.tmp 8) (.tmp 14) 42 (by rfl) b0 188 iE _ 2 16 underlying42 hiE hz0 hz1 hz2 rfl (by omega) _ _ _ (by rfl) HOWN.out ⟨wb.heap.size,0,none⟩ 1 1 [.int .i64 A,.int .u64 wd] (by rfl) rfl HNEWS.out (by intro v hv;simp at hv;rcases hv with rfl|rfl<;>rfl) (by omega) (by unfold maxLen;omega) (by omega) (by simp;omega) (wb.heap.size+1) (by simp) ?_;intro g3 cap3 wn hown hgrow hat hlt3;rw[Jd] at hgrow hat;refine hK.out _ _ (HKG.out wn hgrow) (fun hHeld4=>?_);clear hK K;have cq2:=(World.cell?_of_block (a:=⟨gu,2,none⟩) (hgrow.block gu (by simp;omega) (fun e=>HG3.out e.symm))).trans HQ2.out;have cf2:=(World.frozen?_of_block (a:=⟨gu,2,none⟩) (hgrow.block gu (by simp;omega) (fun e=>HG3.out e.symm))).trans HF2.out;refine tk 12 ?_;refine tk 13 ?_;(refine Aj 14 fun K hK=>?_);go_simp;refine hK.out _ _ (HKS.out wn hgrow _) (fun hHeld5=>?_);clear hK K;refine AZ ?_;(go_wp2_with fail);(go_meet);case rel=>exact⟨rfl,g3,cap3,wn,hown,hgrow,hat,rfl⟩
 case rest =>
  obtain⟨wy,rfl⟩:∃wy:World,wy=wc:=⟨_,rfl⟩
  obtain⟨rfl,g3,cap3,wn,hown,hgrow,hat,hwy⟩:=hcut;have hfin:=HFIN.out g3 cap3 wn hown hgrow hat;have cq1:=HQ1.out wn hgrow;obtain⟨cc2,cf2⟩:=HC2.out wn hgrow;have hnl:=hgrow.size;simp at hnl;rw[<- hwy] at hfin;have y1:wy.cell? ⟨gu,1,none⟩=some (.slice (some ⟨g2,0,none⟩) s.l.length c2):=by rw[hwy,World.cell?_setCell_other _ _ _ _ (by simp)];exact cq1
  have hk2:wy.heap[g2]?=wn.heap[g2]?:=by rw[hwy];exact Below.heap_setCell _ _ _ _ hg2ne
  have y2:=(World.cell?_of_block (a:=⟨g2,A,none⟩) hk2).trans cc2;have y3:=(World.frozen?_of_block (a:=⟨g2,A,none⟩) hk2).trans cf2;have yb:=HKS.out wn hgrow (.slice (some ⟨g3,0,none⟩) (P.length+1) cap3);rw[<- hwy] at yb;have HY:Hid (∀wX:World,(∀k,k≠g2->wX.heap[k]?=wy.heap[k]?)->wX.cell? ⟨gu,1,none⟩=some (.slice (some ⟨g2,0,none⟩) s.l.length c2)/\(wX.cell? ⟨w.heap.size,1,none⟩=some (.int .i64 A)/\wX.cell? ⟨w.heap.size,3,none⟩=some (.int .u64 wd))):=fun wX hX =>
   ⟨(World.cell?_of_block (hX gu (fun e=>hg2ne e.symm))).trans y1,(World.cell?_of_block (hX w.heap.size (by have:=HZB.out;omega))).trans yb.1,(World.cell?_of_block (hX w.heap.size (by have:=HZB.out;omega))).trans yb.2⟩
  have HFI:=A5 hfin;clear hown hgrow hat hfin cq1 cc2 cf2 hwy hk2 hnl;go_wp2_with fail
  refine wp_region_held_drew (S:=(fun wX=>wX.cell? ⟨gu,1,none⟩=some (.slice (some ⟨g2,0,none⟩) s.l.length c2)/\(wX.cell? ⟨w.heap.size,1,none⟩=some (.int .i64 A)/\wX.cell? ⟨w.heap.size,3,none⟩=some (.int .u64 wd)))) (by kernel_rfl) (HY.out wy.drew (fun k hk=>rfl)) (fun hHeld=>?_);refine tk 0 ?_;refine tk 1 ?_;refine tk 2 ?_;refine tk 3 ?_;refine tk 4 ?_;refine tk 5 ?_;refine tk 6 ?_;refine tk 7 ?_;refine tk 8 ?_;refine tk 9 ?_;refine Aj 10 fun K hK=>?_
  go_simp;refine hK.out _ _ (HY.out _ (fun k hk=>Below.heap_setCell _ _ _ _ hk)) (fun hHeld5=>?_);clear hK K;refine AZ ?_;go_wp2_with fail
  obtain⟨g4,cap4,hx4,ht4,hn4⟩:=HFI.out;refine bodyPost_end (v:=.tuple #[]) (by simp[results,results294,go_sem]) rfl ⟨rfl,g4,cap4,hx4.below ⟨rfl,rfl,rfl,Nat.le_refl _,fun _ _=>rfl⟩,⟨ht4.os,ht4.tape,ht4.output,ht4.size,ht4.block⟩,hn4⟩
end
end Go.Proofs.YtnmhkgmmpkjjeaaGreat
