import Derived.Test.YtnmhkgmmpkjjeaaGreatM39
import Derived.Test.YtnmhkgmmpkjjeaaGreatM30
import Derived.Test.YtnmhkgmmpkjjeaaGreatM40
import Derived.Test.YtnmhkgmmpkjjeaaGreatM41
namespace Go.Proofs.YtnmhkgmmpkjjeaaGreat
open ChangeShapes WideShapes ChangeAt RowKit Proofs.Tryz
set_option linter.all false
set_option maxRecDepth 100000
set_option maxHeartbeats 8000000
structure Ti (e:AE):Prop where
 p:0<=e.page/\e.page<=4096
 c:0<=e.count/\e.count<=4096
 o:-2000000<=e.out/\e.out<=2000000
 r:0<=e.perm/\e.perm<=7
theorem Vs{all:List St}(hok:∀s∈all,Ev s)(p:Int):0<=(Bt all p).perm/\(Bt all p).perm<=7:=by
 unfold Bt;split
 ·rename_i s h;have:=hok s (List.mem_of_find?_eq_some h);exact⟨this.p0,this.p1⟩
 ·exact⟨by decide,by decide⟩
theorem Rl{all:List St}(hok:∀s∈all,Ev s):∀k,∀e∈Ah all k,0<=e.perm/\e.perm<=7
 | 0=>by intro e he;simp[Ah] at he
 | k+1=>by
  intro e he;have hp:=Vs hok (k:Nat);have ih:=Rl hok k;unfold Ah CQ at he;generalize Bt all (k:Nat)=s at *;split at he
  ·split at he
   ·rename_i hj;rcases List.mem_or_eq_of_mem_set he with h|h
    ·exact ih e h
    ·subst h;have hm:Cl (Ah all k)∈Ah all k:=by
      unfold Cl AQ;rw[List.getD_eq_getElem?_getD,List.getElem?_eq_getElem (by have:=hj.1;omega)];exact List.getElem_mem _
     have h5:=ih _ hm;exact h5
   ·rcases List.mem_append.1 he with h|h
    ·exact ih e h
    ·rw[List.mem_singleton.1 h];exact hp
  ·exact ih e he
theorem Z5(ts:List Az)(es:List Nat):(Jf ts es).1.length<=4096/\∀e∈(Jf ts es).1,Ti e:=by
 unfold Jf;split
 ·exact⟨Nat.zero_le _,fun e he=>by simp at he⟩
 ·split
  ·exact⟨Nat.zero_le _,fun e he=>by simp at he⟩
  ·obtain⟨h1,h2⟩:=Ny (Gl ts es es.length) 4096 (Nat.le_refl _);have h3:=Rl (Gl ts es es.length) 4096;exact⟨h1,fun e he=>⟨⟨(h2 e he).1,(h2 e he).2.1⟩,⟨(h2 e he).2.2.1,(h2 e he).2.2.2.1⟩,⟨(h2 e he).2.2.2.2.1,(h2 e he).2.2.2.2.2⟩,h3 e he⟩⟩
theorem Yl(l:Az):(J8 l).1.length<=4096/\∀e∈(J8 l).1,Ti e:=by
 unfold J8 KR;split
 ·exact⟨Nat.zero_le _,fun e he=>by simp at he⟩
 ·split
  ·exact⟨Nat.zero_le _,fun e he=>by simp at he⟩
  ·split
   ·exact⟨Nat.zero_le _,fun e he=>by simp at he⟩
   ·exact Z5 _ _
theorem Uh(all:List St)(n:Az):(By all n∈all/\(By all n).kind=1)\/By all n=Aa:=by
 induction all with
 | nil=>exact .inr rfl
 | cons e r ih =>
  unfold By;split
  ·rename_i h;unfold FC at h;simp at h;exact .inl ⟨by simp,h.1⟩
  ·rcases ih with h|h
   ·exact .inl ⟨List.mem_cons_of_mem _ h.1,h.2⟩
   ·exact .inr h
theorem Wg(ts:List Az)(h:(CV ts).kind=2):1<=(CV ts).perm:=by
 unfold CV at h ⊢;split at h
 ·exact absurd h (by decide)
 ·rename_i h0;rw[if_neg h0];split at h
  ·exfalso;unfold TG at h;(repeat' split at h);all_goals exact absurd h (by simp[Aa])
  ·rename_i h1;rw[if_neg h1];split at h
   ·rename_i h2;rw[if_pos h2];unfold Ta at h ⊢;split at h
    ·exact absurd h (by decide)
    ·rename_i h3;rw[if_neg h3];split at h
     ·exact absurd h (by decide)
     ·rename_i h4;rw[if_neg h4];have:=Kl (El ts 3);show 1<=E4 (El ts 3);omega
   ·exfalso;unfold Uo at h;(repeat' split at h);all_goals exact absurd h (by simp[Aa])
structure Zz (all:List St):Prop where
 s:∀e∈all,Ev e
 o:∀e∈all,e.kind=1->e.b+e.a<=65536
 p:∀e∈all,e.kind=2->1<=e.perm
theorem To{all:List St}(h:Zz all){k:Nat}(hk:k<4096)(hc:(Bt all (k:Nat)).count=1):At (Bt all (k:Nat))=true/\(Bt all (k:Nat)).page=k:=by
 unfold Bt at hc ⊢;cases hf:all.find? (Ol all (k:Nat)) with
 | none=>rw[hf] at hc;cases hc
 | some s =>
  have hm:=List.mem_of_find?_eq_some hf;have hi:=List.find?_some hf;unfold Ol at hi;simp at hi;obtain⟨i1,i2,i3⟩:=hi;have p1:=h.p s hm i1;have p7:=(h.s s hm).p1;rw[BC];show (1<=(1:Int)/\0<=(k:Int)/\(k:Int)+1<=4096/\0<=(By all s.name).b+k-s.a/\(By all s.name).b+k-s.a+1<=65536/\1<=s.perm/\s.perm<=7)/\(k:Int)=k;rcases Uh all s.name with⟨ho,h1⟩|ho
  ·have:=h.o _ ho h1;have:=(h.s _ ho).b0;omega
  ·rw[ho] at i3;have:Aa.a=0:=rfl;omega
def U4 (out:List AE):Int:=(Cl out).page+(Cl out).count
theorem KX(out:List AE)(r:AE)(i:Nat)(h:i<out.length):AQ AA (out++[r]) i=AQ AA out i:=by
 unfold AQ;rw[List.getD_eq_getElem?_getD,List.getD_eq_getElem?_getD,List.getElem?_append_left h]
theorem OY(out:List AE)(r:AE):AQ AA (out++[r]) out.length=r:=by
 unfold AQ;rw[List.getD_eq_getElem?_getD];simp
theorem Pa{all:List St}(h:Zz all):∀k,k<=4096->VS (Ah all k)/\(0<(Ah all k).length->U4 (Ah all k)<=k)
 | 0,_=>⟨⟨fun i hi=>absurd hi (Nat.not_lt_zero _),fun i hi=>absurd hi (Nat.not_lt_zero _)⟩,fun h0=>absurd h0 (Nat.not_lt_zero _)⟩
 | k+1,hk=>by
  obtain⟨ho,he⟩:=Pa h k (by omega);show VS (CQ (Ah all k) (Bt all (k:Nat)))/\(0<(CQ (Ah all k) (Bt all (k:Nat))).length->U4 (CQ (Ah all k) (Bt all (k:Nat)))<=((k+1:Nat):Int));have hpc:=To h (k:=k) (by omega);generalize Bt all (k:Nat)=r at *;generalize Ah all k=out at *;unfold CQ;by_cases hc:r.count=1
  ·obtain⟨hr,hp⟩:=hpc hc;rw[if_pos hc];by_cases hj:0<out.length/\Bp (Cl out) r=true
   ·rw[if_pos hj];have hj2:=hj.2;unfold Bp at hj2;simp at hj2;obtain⟨j1,j2,j3,j4⟩:=hj2;refine⟨⟨fun i hi=>?_,fun i hi=>?_⟩,fun _=>?_⟩
    ·rw[List.length_set] at hi;rw[Ix hi];split
     ·have h1:=ho.1 (out.length-1) (by omega);have e:AQ AA out (out.length-1)=Cl out:=rfl;rw[e,BC] at h1;rw[BC] at hr ⊢;unfold SJ;dsimp only;omega
     ·exact ho.1 i hi
    ·rw[List.length_set] at hi;rw[Ix (by omega),Ix hi,if_neg (by omega)];have hp:=ho.2 i hi;split
     ·rename_i e;(have e2:AQ AA out (i+1)=Cl out:=by unfold Cl;rw[<- e]);rw[e2] at hp;unfold D5 Bp at hp ⊢;unfold SJ;exact hp
     ·exact hp
    ·unfold U4 Cl AQ;rw[List.length_set,List.getD_eq_getElem?_getD,List.getElem?_set_self (by omega)];show (Cl out).page+((Cl out).count+1)<=_;omega
   ·rw[if_neg hj];refine⟨⟨fun i hi=>?_,fun i hi=>?_⟩,fun _=>?_⟩
    ·rw[List.length_append,List.length_singleton] at hi;by_cases hh:i<out.length
     ·rw[KX out r i hh];exact ho.1 i hh
     ·(obtain rfl:i=out.length:=by omega);rw[OY];exact hr
    ·rw[List.length_append,List.length_singleton] at hi;by_cases hh:i+1<out.length
     ·rw[KX out r i (by omega),KX out r (i+1) hh];exact ho.2 i hh
     ·(have e:i+1=out.length:=by omega);rw[e,OY,KX out r i (by omega)];(have e2:AQ AA out i=Cl out:=by unfold Cl;rw[<- e];rfl);rw[e2];have h1:=he (by omega);have h2:Bp (Cl out) r=false:=by
       cases hcc:Bp (Cl out) r
       ·rfl
       ·exact absurd ⟨by omega,hcc⟩ hj
      unfold U4 at h1;unfold D5;rw[h2];simp;omega
    ·(have e:Cl (out++[r])=r:=by unfold Cl;rw[List.length_append,List.length_singleton];exact OY out r);unfold U4;rw[e,hp,hc];omega
  ·rw[if_neg hc];exact⟨ho,fun h0=>by have:=he h0;omega⟩
theorem Id:VS []:=⟨fun i hi=>absurd hi (Nat.not_lt_zero _),fun i hi=>absurd hi (Nat.not_lt_zero _)⟩
theorem Vu(ts:List Az)(es:List Nat):VS (Jf ts es).1:=by
 unfold Jf;cases hf:(List.range es.length).find? (fun k=>!(Ef ts es k==0)) with
 | some k=>exact Id
 | none =>
  dsimp only;split
  ·exact Id
  ·refine(Pa ⟨Gl ts es es.length,fun e he hk=>?_,fun e he hk=>?_⟩ 4096 (Nat.le_refl _)).1
   ·unfold Ej at he;obtain⟨i,hi,rfl⟩:=List.mem_map.1 he;have:=List.find?_eq_none.1 hf i hi;simp at this;unfold Ef Bu at this;rw[hk] at this;simp at this;by_cases h1:(By (Ej ts es i) (Yb ts es i).name).kind=1
    ·rw[if_pos h1] at this;cases this
    ·rw[if_neg h1] at this;by_cases h2:(Yb ts es i).a=0\/65536<(Yb ts es i).b+(Yb ts es i).a
     ·rw[if_pos h2] at this;cases this
     ·omega
   ·unfold Ej at he;obtain⟨i,hi,rfl⟩:=List.mem_map.1 he;exact Wg _ hk
theorem WY(l:Az):VS (J8 l).1:=by
 unfold J8 KR;split
 ·exact Id
 ·split
  ·exact Id
  ·split
   ·exact Id
   ·exact Vu _ _
theorem He(H:Nat->Ht):∀g,(AJ H g).length<=1+g+(g+15)/16
 | 0=>by simp[AJ]
 | g+1=>by
  rw[Hc,List.length_append];have:=He H g;have h0:=KT H (g*16);unfold Es;rw[List.length_append];split
  ·rename_i hg;have:=hg.1;simp only[List.length_singleton];omega
  ·simp only[List.length_nil];omega
theorem RF(F:Nat)(h:An (Bs F).length≠0):A7 (Bs F)=[⟨0,1,0⟩]:=by
 unfold A7;rw[if_neg h];unfold Ax Ar;have e:∀i,Dq (Bs F) (An (Bs F).length) ⟨0,1,0⟩ i=false:=fun i=>by
  unfold Dq AC;rw[Gp];rfl
 simp[e]
theorem TY(F:Nat)(h:An (Bs F).length≠0):Be (Bs F)=true:=by
 unfold Be;rw[RF F h];have e:∀i,Cy (Bs F) (An (Bs F).length) ⟨0,1,0⟩ i=true:=fun i=>by
  unfold Cy AC;rw[Gp];rfl
 have hs:Ct (Bs F) (An (Bs F).length) ⟨0,1,0⟩=true:=by
  unfold Ct;rw[List.all_eq_true];exact fun i _=>e i
 have hp:Aq [(⟨0,1,0⟩:P3)] 0=⟨0,1,0⟩:=rfl;simp[C0,EQ,h,hp,hs]
theorem TO{xs:List AE}{fr:Int}(hv:VS xs)(h1:NJ xs<=fr)(h2:fr<=512):(EW xs fr).2=0:=by
 have hvb:=Ld hv;rw[Rm hvb] at h1;have hw:1<=(AJ (lay xs) 256).length:=by unfold AJ;simp
 obtain⟨F,rfl⟩:∃F:Nat,fr=F:=⟨fr.toNat,by omega⟩
 have hn:An (Bs F).length=(F:Int):=by
  rw[Fx];unfold An;rw[if_neg (by omega)];omega
 unfold EW;rw[if_neg (by rw[hvb];simp),if_neg (by omega),if_neg];show ¬(Bk (Bs F) xs).2≠0;rw[FY (TY F (by omega)) hvb (by omega)];simp
theorem JS(xs:List AE):0<=NJ xs/\NJ xs<=273:=by
 unfold NJ;split
 ·exact⟨by omega,by have:=He (lay xs) 256;omega⟩
 ·exact⟨by omega,by omega⟩
section
attribute [local go_sem ↓] wp_at_zero wp_at_succ
attribute [local go_sem] DU FG FM H5 FE Du
def QG:Az:=[103,117,97,114,100,32,52,48,48,48,32,57,54,59,32,35,32,116,104,101,32,108,97,115,116,32,112,97,103,101,115,10]
theorem XT:bs [103,117,97,114,100,32,52,48,48,48,32,57,54,59,32,35,32,116,104,101,32,108,97,115,116,32,112,97,103,101,115,10]=bs QG:=rfl
attribute [local go_sem] XT
def GV (v:Int) (cs:List Int) (p:Nat):Az:=if (p+5*FT cs)%3=0 then Cn (Au v cs p (FT cs)).1++QG else Cn (Au v cs p (FT cs)).1
theorem aA(v:Int)(cs:List Int)(p:Nat)(hc:Ia cs)(hp:p<=90000):(Au v cs p (FT cs)).1.length<=8/\∀j,j<(Au v cs p (FT cs)).1.length->AB 30000 (AQ Ag (Au v cs p (FT cs)).1 j):=by
 obtain⟨b0,b1⟩:=Ja cs;obtain⟨h1,h2,h3⟩:=Lf v cs p hc hp (FT cs) b1;exact⟨by omega,fun j hj=>(h3 j (by omega)).mono (by omega)⟩
theorem Mh(v:Int)(cs:List Int)(p:Nat)(hc:Ia cs)(hp:p<=90000):(Cn (Au v cs p (FT cs)).1).length<=900000/\(GV v cs p).length<=1000000:=by
 obtain⟨h1,h2⟩:=aA v cs p hc hp;have h3:=Lt _ (Jh (Au v cs p (FT cs)).1 (Au v cs p (FT cs)).1.length) h2 _ (Nat.le_refl _);have h4:(Cn (Au v cs p (FT cs)).1).length<=900000:=by unfold Cn;omega
 refine⟨h4,?_⟩;unfold GV;split
 ·rw[List.length_append];have:QG.length=32:=rfl;omega
 ·omega
theorem OH(v:Int)(hv:v=0\/v=1)(a:Option Addr)(cap:Nat)(cs:List Int)(p:Nat)(w:World)(hc:Ia cs)(hp:p<=90000)(hs:On w a cs):Calls prog 93 #[.slice a cs.length cap,.int .i64 (p:Int),.int .i64 v] w (AM w (.tuple #[.string (bs (GV v cs p)),.int .i64 ((p+5*FT cs:Nat):Int)])):=by
 have t1:=MI v hv a cap cs p w hc hp hs;obtain⟨h1,h2⟩:=aA v cs p hc hp;have HD:Hid (GV v cs p=if (p+5*FT cs)%3=0 then Cn (Au v cs p (FT cs)).1++QG else Cn (Au v cs p (FT cs)).1):=A6 rfl;have HT:Hid (∀g c wX,A8 Ag wX w.heap.size (.slice (some ⟨g,0,none⟩) (Au v cs p (FT cs)).1.length c) (Au v cs p (FT cs)).1->Calls prog 161 #[.slice (some ⟨g,0,none⟩) (Au v cs p (FT cs)).1.length c] wX (AM wX (.string (bs (Cn (Au v cs p (FT cs)).1))))):=A6 fun g c wX h=>ML g c w.heap.size _ wX h1 h2 h
 have hlen:=(Mh v cs p hc hp).1;obtain⟨b0,b1⟩:=Ja cs;have hlg:QG.length=32:=rfl;generalize GV v cs p=R at *;generalize Cn (Au v cs p (FT cs)).1=T at *;generalize (Au v cs p (FT cs)).1=l at *;clear hc hs h2 hv;obtain⟨q,hq⟩:∃q,p+5*FT cs=q:=⟨_,rfl⟩
 have hq1:q<=100000:=by omega
 rw[hq] at t1 HD ⊢;clear hq;obtain⟨q3,hq3⟩:∃q3:Int,(q:Int)%3=q3:=⟨_,rfl⟩
 have eq3:(q:Int).tmod 3=q3:=by rw[Int.tmod_eq_emod_of_nonneg (by omega)];exact hq3
 go_enter func93,ntmps93
 go_wp2_with fail
 refine t1.mono ?_;rintro e w1 ⟨g,c,rfl,hr,hb1⟩;have t2:=HT.out g c w1 hr;have HB1:=A5 hb1;clear t1 hr hb1 HT;go_wp2_with fail
 refine t2.mono ?_;rintro e w2 ⟨rfl,hb2⟩;have HB2:=A5 (Ab HB1.out hb2);clear t2 hb2;by_cases h3:q3=0
 ·have h3b:(q3==0)=true:=by simpa using h3
  have HR:Hid (R=T++QG):=A6 (by rw[HD.out,if_pos (by omega)]);clear hq3 h3;go_wp2_with fail
  exact bodyPost_ret (v:=.tuple #[.string (bs (T++QG)),.int .i64 (q:Int)]) (by simp[results,results93,go_sem]) rfl ⟨by rw[HR.out],HB2.out⟩
 ·have h3b:(q3==0)=false:=by simpa using h3
  have HR:Hid (R=T):=A6 (by rw[HD.out,if_neg (by omega)]);clear hq3 h3;go_wp2_with fail
  exact bodyPost_ret (v:=.tuple #[.string (bs T),.int .i64 (q:Int)]) (by simp[results,results93,go_sem]) rfl ⟨by rw[HR.out],HB2.out⟩
end
section
attribute [local go_sem ↓] wp_at_zero wp_at_succ
attribute [local go_sem] DU FG FM H5 FE Du
def Ih (w:World) (r:List AE×Int×Int) (e:Ending) (w':World):Prop :=
 ∃g c1,e=.returned (.tuple #[.slice (some ⟨g,0,none⟩) r.1.length c1,.agg #[.int .i64 r.2.1,.int .i64 r.2.2]])/\A8 AA w' w.heap.size (.slice (some ⟨g,0,none⟩) r.1.length c1) r.1/\Bl w w'
theorem V9(es:List Nat)(k:Nat)(h:k<es.length):AQ Ae (es.map (fun n:Nat=>(n:Int))) k=(G8 es k:Int):=by
 unfold AQ G8;rw[List.getD_eq_getElem?_getD,List.getD_eq_getElem?_getD,List.getElem?_map,List.getElem?_eq_getElem h];rfl
theorem NU(l:Az)(w:World)(hl:l.length<=9223372036854775807):Calls prog 11 #[.string (bs l)] w fun e w'=>Ih w (J8 l) e w':=by
 obtain⟨i0,hi,hz0,hz1,hz2⟩:=info_parts Oa;obtain⟨i1,hj,hy0,hy1,hy2⟩:=info_parts R5;obtain⟨wb,hwb⟩:∃wb,wb=(w.alloc (.cells #[.int .i64 0,.int .i64 0] 27)).alloc (.cells #[] 103):=⟨_,rfl⟩
 have hbb:Bl w wb:=by rw[hwb];exact AO.alloc (by simp) _
 have hzb:w.heap.size+1<wb.heap.size:=by rw[hwb];simp
 have HQ:Hid (∀wX,Bl wb wX->(wX.cell? ⟨w.heap.size,0,none⟩=some (.int .i64 0)/\wX.cell? ⟨w.heap.size,1,none⟩=some (.int .i64 0))/\(wX.frozen? ⟨w.heap.size,0,none⟩=false/\wX.frozen? ⟨w.heap.size,1,none⟩=false)):=A6 fun wX hX=>by
  refine⟨⟨?_,?_⟩,⟨?_,?_⟩⟩;iterate 2 (exact(hX.cell (by simp;omega)).trans (by rw[hwb];simp[go_sem]))
  iterate 2 (exact(hX.frozen (by simp;omega)).trans (by rw[hwb];simp[go_sem]))
 have HN0:Hid (A8 AA wb w.heap.size (.slice (some ⟨w.heap.size+1,0,none⟩) 0 0) []):=A6 (by
  have h:=A8.empty AA (w.alloc (.cells #[.int .i64 0,.int .i64 0] 27)) w.heap.size (by simp)
  rw[World.size_alloc] at h
  rw[hwb]
  exact h)
 have HEN0:Hid (∀c d:Int,A8 AA ((w.alloc (.cells #[.int .i64 c,.int .i64 d] 27)).alloc (.cells #[] 103)) w.heap.size (.slice (some ⟨w.heap.size+1,0,none⟩) 0 0) []/\Bl w ((w.alloc (.cells #[.int .i64 c,.int .i64 d] 27)).alloc (.cells #[] 103))):=A6 fun c d=>by
  have h:=A8.empty AA (w.alloc (.cells #[.int .i64 c,.int .i64 d] 27)) w.heap.size (by simp);rw[World.size_alloc] at h;exact⟨h,AO.alloc (by simp) _⟩
 have HEND:Hid (∀(wX:World) (c d:Int),Bl wb wX->A8 AA ((wX.setCell ⟨w.heap.size,0,none⟩ (.int .i64 c)).setCell ⟨w.heap.size,1,none⟩ (.int .i64 d)) w.heap.size (.slice (some ⟨w.heap.size+1,0,none⟩) 0 0) []/\Bl w ((wX.setCell ⟨w.heap.size,0,none⟩ (.int .i64 c)).setCell ⟨w.heap.size,1,none⟩ (.int .i64 d))):=A6 fun wX c d hX=>by
  refine⟨?_,hbb.trans (((hX.mono (by omega)).setCell (by simp) _).setCell (by simp) _)⟩;refine((HN0.out.below hX).kept (B7 (World.grownBy.refl _ _) 0 _) ?_).kept (B7 (World.grownBy.refl _ _) 1 _) ?_;all_goals
   intro q hq
   have:w.heap.size+1=q:=by simpa [Value.ownBlock] using hq
   simp;omega
 have HWB:=A5 hwb;have HBB:=A5 hbb;obtain⟨⟨q0,q1⟩,f0,f1⟩:=HQ.out wb AH;by_cases h1:20000<l.length
 ·have e:J8 l=([],1,0):=by unfold J8;rw[if_pos h1]
  rw[e];unfold Ih;have h1':(20000:Int)<(l.length:Int):=by omega
  obtain⟨hE,hB⟩:=HEN0.out 1 0;have HE:=A5 hE;have HB:=A5 hB;clear h1 e hE hB hbb hwb q0 q1 f0 f1;go_enter func11,ntmps11
  go_wp2_with fail
  exact bodyPost_ret (v:=.tuple #[.slice (some ⟨w.heap.size+1,0,none⟩) 0 0,.agg #[.int .i64 1,.int .i64 0]]) (by simp[results,results11,go_sem]) rfl ⟨w.heap.size+1,0,rfl,HE.out,HB.out⟩
 have hl2:l.length<=20000:=by omega
 have hl3:¬(20000:Int)<(l.length:Int):=by omega
 have hbl:=Pg l;have hlen:=Ll false l;have hbad:=fun wX=>Se (C9 false l) wX (by omega)
 have htk:=fun wX=>NY (C9 false l) wX (by omega)
 have htb:=Oc [] (C9 false l);simp only[List.length_nil,Nat.zero_add] at htb;rw[hlen] at htb;have HPL:Hid (J8 l=if 0<=GN 0 (C9 false l) then ([],(2:Int),GN 0 (C9 false l)) else KR (E0 [] (C9 false l))):=A6 (by unfold J8;rw[if_neg h1]);generalize E0 [] (C9 false l)=ts at *;generalize GN 0 (C9 false l)=BD at *;generalize C9 false l=BL at *;clear hlen h1;by_cases h2:0<=BD
 ·rw[HPL.out,if_pos h2];unfold Ih;obtain⟨hE,hB⟩:=HEN0.out 2 BD;have HE:=A5 hE;have HB:=A5 hB;clear hE hB hbb hwb q0 q1 f0 f1 htk HPL;go_enter func11,ntmps11
  go_wp2_with fail
  refine(hbl _ hl2).mono ?_;rintro e w1 ⟨rfl,hw1⟩;obtain rfl:=hw1.symm;go_wp2_with fail
  refine(hbad _).mono ?_;rintro e w2 ⟨rfl,hw2⟩;obtain rfl:=hw2.symm;go_wp2_with fail
  exact bodyPost_ret (v:=.tuple #[.slice (some ⟨w.heap.size+1,0,none⟩) 0 0,.agg #[.int .i64 2,.int .i64 BD]]) (by simp[results,results11,go_sem]) rfl ⟨w.heap.size+1,0,rfl,HE.out,HB.out⟩
 have h2b:decide (0<=BD)=false:=by simpa using h2
 rw[HPL.out,if_neg h2];have htk1:=htk wb;rw[hwb] at htk1;obtain⟨htl,hte⟩:=htb;have HTE:=A5 hte;clear hbb hwb q0 q1 f0 f1 htk HPL hte;unfold Ih;go_enter func11,ntmps11
 go_wp2_with fail
 refine(hbl _ hl2).mono ?_;rintro e w1 ⟨rfl,hw1⟩;obtain rfl:=hw1.symm;go_wp2_with fail
 refine(hbad _).mono ?_;rintro e w2 ⟨rfl,hw2⟩;obtain rfl:=hw2.symm;go_wp2_with fail
 refine htk1.mono ?_;rintro e w3 ⟨v,rfl,hls⟩;have hls':LS JI wb w3 v ts:=by rw[HWB.out];exact hls
 obtain⟨⟨gt,ct,rfl,hrt⟩,hb3⟩:=hls';have s3:=hb3.size;have HB3:=A5 hb3;have HRT:=A5 hrt;have hct:ts.length<=ct:=by
  rcases hrt.2 with⟨e,_⟩|⟨g',cap',cur,e,_,_,hn',_⟩
  ·cases e
  ·simp only[Value.slice.injEq,true_and] at e;omega
 have HE0:Hid (A8 Ae (w3.alloc (.cells #[] 3)) w3.heap.size (.slice (some ⟨w3.heap.size,0,none⟩) 0 0) []):=A6 (A8.empty Ae w3 w3.heap.size (Nat.le_refl _));clear hls hrt hb3 htk1 hbl hbad;go_wp2_with fail
 go_loopw [8,9] (fun vv iv wr=>∃(k:Nat) (E:List Int) (ge ce:Nat),k<=ts.length/\iv=.int .i64 (k:Int)/\vv=.slice (some ⟨ge,0,none⟩) E.length ce/\Hid (E=(Bj ts k).map (fun n:Nat=>(n:Int)))/\Hid (A8 Ae wr w3.heap.size (.slice (some ⟨ge,0,none⟩) E.length ce) E)/\Bl w3 wr) (fun _ iv _=>ts.length-(intOf iv).toNat)
 case atStart=>exact⟨0,[],w3.heap.size,0,Nat.zero_le _,rfl,rfl,A6 rfl,HE0,AO⟩
 case round =>
  obtain⟨k,E,ge,ce,hk,rfl,rfl,HEE,HRE,hb⟩:=hrel;have sr:=hb.size;have HB:=A5 hb;have hEl:E.length<=k:=by rw[HEE.out,List.length_map];exact QM ts k
  by_cases hlt:k<ts.length
  ·obtain⟨gtl,ctk⟩:=Lo (HRT.out.below hb) k hlt;have HES:Hid (Bj ts (k+1)=if El ts k==[59] then Bj ts k++[k] else Bj ts k):=A6 (PT ts k);rw[show AQ JI ts k=El ts k from rfl] at ctk;generalize El ts k=TX at *;(have K1:(0:Int)<=(k:Int):=by omega);(have K2:(k:Int)<(ts.length:Int):=by omega);clear hb;cases hx:TX==[59]
   ·have HV:Hid (E=(Bj ts (k+1)).map (fun n:Nat=>(n:Int))):=A6 (by rw[HES.out,hx,HEE.out];rfl);(go_wp2_with fail);go_roundw;(case rel=>exact⟨k+1,E,ge,ce,by omega,by go_num,rfl,HV,HRE,HB.out⟩);case measure=>first|(simp[intOf];done)|(simp[intOf];omega)
   ·have HV:Hid (E++[(k:Int)]=(Bj ts (k+1)).map (fun n:Nat=>(n:Int))):=A6 (by rw[HES.out,hx,HEE.out];simp);have HRD:Hid (A8 Ae (wr.alloc (.cells #[.int .i64 (k:Int)] 3)) w3.heap.size (.slice (some ⟨ge,0,none⟩) E.length ce) E):=A6 (HRE.out.below AO);have HBD:Hid (Bl w3 (wr.alloc (.cells #[.int .i64 (k:Int)] 3))):=A6 (HB.out.alloc sr _);(go_wp2_with (at_builtin;refine wpList_append_lies _ rfl (.tmp 45) (.tmp 47) 91 rfl w3.heap.size 3 i0 _ 1 8 underlying91 hi hz0 hz1 hz2 rfl (by omega) _ _ _ rfl HRD.out ⟨_,0,none⟩ 1 1 [.int .i64 (k:Int)] rfl rfl ?c1 ?c2 (by omega) ?c3 ?c4 ?c5 _ rfl ?_));(case c1=>exact World.news_of_block (heap_alloc_new _ (.cells #[.int .i64 (k:Int)] 3)));(case c2=>intro u hu;simp at hu;rcases hu with rfl;rfl);(case c3=>unfold maxLen;omega);(case c4=>omega);(case c5=>first|omega|(simp;omega));intro g7 c7 w7 hown hgrow hat hlt3;obtain⟨hr7,hb7⟩:=Gh (E:=Ae) (x:=(k:Int)) HBD.out HRD.out hown hgrow;have HR7:=A5 hr7;have HB7:=A5 hb7;clear hown hgrow hat hlt3 hr7 hb7;(go_wp2_with fail);go_roundw;(case rel=>exact⟨k+1,E++[(k:Int)],g7,c7,by omega,by go_num,by simp,HV,HR7,HB7.out⟩);case measure=>first|(simp[intOf];done)|(simp[intOf];omega)
  have ek:k=ts.length:=by omega
  have HEN:Hid (E=(Bj ts ts.length).map (fun n:Nat=>(n:Int))):=A6 (by rw[<- ek];exact HEE.out);have K2:¬(k:Int)<(ts.length:Int):=by omega
  obtain⟨es,hes⟩:∃es,Bj ts ts.length=es:=⟨_,rfl⟩
  have HES:=A5 hes;rw[hes] at HEN;have hel:E.length=es.length:=by rw[HEN.out,List.length_map]
  have HPT:Hid (KR ts=if 1000<es.length then ([],(3:Int),(1000:Int)) else Jf ts es):=A6 (by unfold KR;rw[hes]);have hBr:Bl wb wr:=HB3.out.trans (HB.out.mono s3);clear hes ek hlt hb;generalize wr=wq at *;have HQB:=A5 hBr;obtain⟨⟨q0,q1⟩,f0,f1⟩:=HQ.out wq hBr;by_cases h3:1000<es.length
  ·(have h3':(1000:Int)<(E.length:Int):=by omega);have HV:Hid (KR ts=([],(3:Int),(1000:Int))):=A6 (by rw[HPT.out,if_pos h3]);obtain⟨hE,hB⟩:=HEND.out wq 3 1000 hBr;have HEQ:=A5 hE;have HBQ:=A5 hB;clear hE hB hel h3 hBr;(go_wp2_with fail);rw[HV.out];exact bodyPost_ret (v:=.tuple #[.slice (some ⟨w.heap.size+1,0,none⟩) 0 0,.agg #[.int .i64 3,.int .i64 1000]]) (by simp[results,results11,go_sem,q0,q1]) rfl ⟨w.heap.size+1,0,rfl,HEQ.out,HBQ.out⟩
  have h3':¬(1000:Int)<(E.length:Int):=by omega
  have HPE:Hid (KR ts=Jf ts es):=A6 (by rw[HPT.out,if_neg h3]);have HTC:Hid (∀wX,Bl wq wX->gt<wX.heap.size/\∀i,i<ts.length->wX.cell? ⟨gt,i,none⟩=some (.string (bs (El ts i)))):=A6 fun wX hX=>by
   have hx:=HRT.out.below (Ab HB.out hX);refine⟨(hx.own gt rfl).2,fun i hi=>(Lo hx i hi).2⟩
  have HEC:Hid (∀wX,Bl wq wX->∀i,i<es.length->ge<wX.heap.size/\wX.cell? ⟨ge,i,none⟩=some (.int .i64 (G8 es i:Int))):=A6 fun wX hX i hi=>by
   obtain⟨a,b⟩:=Ch (HRE.out.below hX) i (by omega);refine⟨a,?_⟩;rw[b,HEN.out,V9 es i hi]
  have HFE:Hid (∀k,k<es.length->DI es k<=G8 es k/\G8 es k<ts.length):=A6 fun k hk=>by rw[<- HES.out] at hk ⊢;exact Ri hk
  have HFE2:Hid (∀k,k<=es.length->DI es k<=ts.length):=A6 fun k hk=>by rw[<- HES.out] at hk ⊢;exact Uk hk
  have HEL:=A5 hel;have hes1:es.length<=1000:=by omega
  have HA0:Hid (A8 Th (wq.alloc (.cells #[] 96)) wq.heap.size (.slice (some ⟨wq.heap.size,0,none⟩) 0 0) []):=A6 (A8.empty Th wq wq.heap.size (Nat.le_refl _));clear hel h3 hBr HPT hEl q0 q1 f0 f1;go_wp2_with fail
  go_loopw [10,11,12] (fun av fv iv wz=>∃(k:Nat) (L:List St) (ga ca:Nat),k<=es.length/\iv=.int .i64 (k:Int)/\fv=.int .i64 (DI es k:Int)/\av=.slice (some ⟨ga,0,none⟩) L.length ca/\Hid (L=Ej ts es k)/\Hid (∀j,j<k->Ef ts es j=0)/\Hid (A8 Th wz wq.heap.size (.slice (some ⟨ga,0,none⟩) L.length ca) L)/\Bl wq wz) (fun _ _ iv _=>es.length-(intOf iv).toNat)
  case atStart=>exact⟨0,[],wq.heap.size,0,Nat.zero_le _,rfl,rfl,rfl,A6 rfl,A6 fun j hj=>absurd hj (by omega),HA0,AO⟩
  case round =>
   obtain⟨k,L,ga,ca,hk,rfl,rfl,rfl,HLA,HCD,HRL,hb⟩:=hrel;have sr:=hb.size;have HBk:=A5 hb;(have hLl:L.length=k:=by rw[HLA.out,SU]);(have hL1:L.length<=1000:=by omega);by_cases hlt:k<es.length
   ·obtain⟨hF1,hF2⟩:=HFE.out k hlt;obtain⟨gel,cek⟩:=HEC.out wr hb k hlt;obtain⟨gtl,ctk⟩:=HTC.out wr hb;(have K0:(0:Int)<=(k:Int):=by omega);(have K1:(k:Int)<(E.length:Int):=by have:=HEL.out;omega);have HCK:Hid (Ef ts es k=Bu L (CV (Kh ts (DI es k) (G8 es k)))):=A6 (by rw[HLA.out];rfl);have HLS:Hid (Ej ts es (k+1)=L++[CV (Kh ts (DI es k) (G8 es k))]):=A6 (by rw[RN,HLA.out];rfl);have HFS:Hid (DI es (k+1)=G8 es k+1):=A6 rfl;generalize DI es k=FR at *;(obtain⟨EN,hENe⟩:∃EN,G8 es k=EN:=⟨_,rfl⟩);have HENk:=A5 hENe;rw[hENe] at hF1 hF2 cek HCK HLS HFS;clear hENe;(have hne:¬ct=FR:=by omega);(have hF4:EN<=ct:=by omega);(have R0:(0:Int)<=(FR:Int):=by omega);(have R1:(FR:Int)<=(EN:Int):=by omega);(have R2:(EN:Int)<=(ct:Int):=by omega);have HTC2:=A5 ctk;clear hb hLl ctk
    have hrd:=Lr (some ⟨gt,FR,none⟩) (ct-FR) (Kh ts FR EN) wr (by rw[Il (by omega) (by omega)];omega) (fun i hi=>by
     rw[Il (by omega) (by omega)] at hi
     rw[Rw (by omega) hi]
     have hm:El ts (FR+i)∈ts:=by
      unfold El
      rw[List.getD_eq_getElem?_getD,List.getElem?_eq_getElem (by omega)]
      exact List.getElem_mem _
     have:=HTE.out _ hm
     omega) (fun _=>⟨gt,FR,rfl,gtl,fun i hi=>by
     rw[Il (by omega) (by omega)] at hi
     rw[Rw (by omega) hi]
     exact HTC2.out (FR+i) (by omega)⟩)
    rw[Il (by omega) (by omega)] at hrd;have hsk:=QJ (Kh ts FR EN);have hso:=PJ (Kh ts FR EN);(have HPB:Hid (Ef ts es k≠0->Jf ts es=([],Ef ts es k,((k:Nat):Int))):=A6 fun h=>VT hlt HCD.out h);generalize CV (Kh ts FR EN)=SS at *;(have HCO:Hid (∀wX,Bl wr wX->Calls prog 37 #[.slice (some ⟨ga,0,none⟩) L.length ca,CH SS] wX (AM wX (.int .i64 (Bu L SS)))):=A6 fun wX hX=>QT _ ca L SS wX hL1 (fun h0=>JN (HRL.out.below hX) h0) (by rw[HLA.out];exact Gl ts es k) hso hsk);rw[HCK.out] at HPB;have HC0:Hid (Bu L SS=0->∀j,j<k+1->Ef ts es j=0):=A6 fun h j hj=>by
     by_cases e:j=k
     ·rw[e,HCK.out];exact h
     ·exact HCD.out j (by omega)
    generalize Bu L SS=CD at *;obtain⟨SK,SN,SA,SB,SP,SX⟩:=SS;unfold CH at hrd HCO;dsimp only at hrd HCO;clear hsk hso HCK;(go_wp2_with fail);refine hrd.mono ?_;rintro e w5 ⟨rfl,hb5⟩;have z5:=hb5.size;(obtain⟨wx,hwx⟩:∃wx,wx=w5.alloc (.cells #[.int .i64 SK,.string (bs SN),.int .i64 SA,.int .i64 SB,.int .i64 SP,.bool SX] 96):=⟨_,rfl⟩);(have hbx:Bl wr wx:=by rw[hwx];exact hb5.alloc z5 _);(have zx:w5.heap.size<wx.heap.size:=by rw[hwx];simp);have HXC:Hid (∀wX,Bl wx wX->wX.cell? ⟨w5.heap.size,0,none⟩=some (.int .i64 SK)/\wX.cell? ⟨w5.heap.size,1,none⟩=some (.string (bs SN))/\wX.cell? ⟨w5.heap.size,2,none⟩=some (.int .i64 SA)/\wX.cell? ⟨w5.heap.size,3,none⟩=some (.int .i64 SB)/\wX.cell? ⟨w5.heap.size,4,none⟩=some (.int .i64 SP)/\wX.cell? ⟨w5.heap.size,5,none⟩=some (.bool SX)):=A6 fun wX hX=>by
     refine⟨?_,?_,?_,?_,?_,?_⟩;iterate 6 (exact(hX.cell (by simpa using zx)).trans (by rw[hwx];simp[go_sem]))
    have hcode:=HCO.out wx hbx;have HBX:=A5 hbx;have HWX:=A5 hwx;rw[hwx] at hcode;clear hrd hb5 hbx hwx;(go_wp2_with fail);refine hcode.mono ?_;rintro e w6 ⟨rfl,hb6'⟩;(have hb6:Bl wx w6:=by rw[HWX.out];exact hb6');have hbr6:Bl wr w6:=Ab HBX.out hb6;have hbq6:Bl wq w6:=HBk.out.trans (hbr6.mono sr);have hbb6:Bl wb w6:=Ab HQB.out hbq6;obtain⟨⟨q0,q1⟩,f0,f1⟩:=HQ.out w6 hbb6;obtain⟨y0,y1,y2,y3,y4,y5⟩:=HXC.out w6 hb6;obtain⟨ge6,ce6⟩:=HEC.out w6 hbq6 k hlt;rw[HENk.out] at ce6;have s6:=hbq6.size;have HB6:=A5 hbq6;have HR6:Hid (A8 Th w6 wq.heap.size (.slice (some ⟨ga,0,none⟩) L.length ca) L):=A6 (HRL.out.below hbr6);by_cases hc:CD=0
    ·subst hc;have HV:=A5 HLS.out.symm;have HC1:Hid (∀j,j<k+1->Ef ts es j=0):=A6 (HC0.out rfl);have HRD:Hid (A8 Th (w6.alloc (.cells #[.int .i64 SK,.string (bs SN),.int .i64 SA,.int .i64 SB,.int .i64 SP,.bool SX] 96)) wq.heap.size (.slice (some ⟨ga,0,none⟩) L.length ca) L):=A6 (HR6.out.below AO);have HBD:Hid (Bl wq (w6.alloc (.cells #[.int .i64 SK,.string (bs SN),.int .i64 SA,.int .i64 SB,.int .i64 SP,.bool SX] 96))):=A6 (HB6.out.alloc s6 _);clear hcode hb6' hb6 hbr6 hbq6 hbb6;(go_wp2_with (at_builtin;refine wpList_append_lies _ rfl (.tmp 78) (.tmp 80) 94 rfl wq.heap.size 96 i1 _ 6 56 underlying94 hj hy0 hy1 hy2 rfl (by omega) _ _ _ rfl HRD.out ⟨_,0,none⟩ 1 1 [.int .i64 SK,.string (bs SN),.int .i64 SA,.int .i64 SB,.int .i64 SP,.bool SX] rfl rfl ?c1 ?c2 (by omega) ?c3 ?c4 ?c5 _ rfl ?_));(case c1=>exact World.news_of_block (heap_alloc_new _ (.cells #[.int .i64 SK,.string (bs SN),.int .i64 SA,.int .i64 SB,.int .i64 SP,.bool SX] 96)));(case c2=>intro u hu;simp at hu;rcases hu with rfl|rfl|rfl|rfl|rfl|rfl<;>rfl);(case c3=>unfold maxLen;omega);(case c4=>omega);(case c5=>first|omega|(simp;omega));intro g7 c7 w7 hown hgrow hat hlt3;obtain⟨hr7,hb7⟩:=Gh (E:=Th) (x:=⟨SK,SN,SA,SB,SP,SX⟩) HBD.out HRD.out hown hgrow;have HR7:=A5 hr7;have HB7:=A5 hb7;obtain⟨ge7,ce7⟩:=HEC.out w7 hb7 k hlt;rw[HENk.out] at ce7;clear hown hgrow hat hlt3 hr7 hb7;(go_wp2_with fail);go_roundw;(case rel=>exact⟨k+1,L++[(⟨SK,SN,SA,SB,SP,SX⟩:St)],g7,c7,by omega,by go_num,by rw[HFS.out];first|rfl|go_num,by simp,HV,HC1,HR7,HB7.out⟩);case measure=>first|(simp[intOf];done)|(simp[intOf];omega)
    ·(have hcb:(CD != 0)=true:=by simpa using hc);have HV:Hid (KR ts=([],CD,((k:Nat):Int))):=A6 (by rw[HPE.out];exact HPB.out hc);obtain⟨hE,hB⟩:=HEND.out w6 CD (k:Int) hbb6;have HEQ:=A5 hE;have HBQ:=A5 hB;clear hE hB hcode hb6' hb6 hbr6 hbq6 hbb6;(go_wp2_with fail);rw[HV.out];exact bodyPost_ret (v:=.tuple #[.slice (some ⟨w.heap.size+1,0,none⟩) 0 0,.agg #[.int .i64 CD,.int .i64 (k:Int)]]) (by simp[results,results11,go_sem,q0,q1]) rfl ⟨w.heap.size+1,0,rfl,HEQ.out,HBQ.out⟩
   have ek:k=es.length:=by omega
   have HPG:Hid (KR ts=if DI es es.length<ts.length then ([],(4:Int),((es.length:Nat):Int)) else (Ah (Ej ts es es.length) 4096,(0:Int),(0:Int))):=A6 (by
    rw[HPE.out]
    exact TZ (fun j hj=>HCD.out j (by omega)))
   have hbbr:Bl wb wr:=Ab HQB.out hb;obtain⟨⟨q0,q1⟩,f0,f1⟩:=HQ.out wr hbbr;have HFX:Hid (DI es k=DI es es.length):=A6 (by rw[ek]);rw[HFX.out];have hfl:=HFE2.out es.length (Nat.le_refl _);have HLE:Hid (L=Ej ts es es.length):=A6 (by rw[HLA.out,ek]);(have K2:¬(k:Int)<(E.length:Int):=by have:=HEL.out;omega);(have zr:w.heap.size<wr.heap.size:=by omega);(obtain⟨FR,hFR⟩:∃FR,DI es es.length=FR:=⟨_,rfl⟩);rw[hFR] at HPG hfl ⊢;by_cases hf:FR<ts.length
   ·(have hf':(FR:Int)<(ts.length:Int):=by omega);have HV:Hid (KR ts=([],(4:Int),(E.length:Int))):=A6 (by rw[HPG.out,if_pos hf,HEL.out]);obtain⟨hE,hB⟩:=HEND.out wr 4 (E.length:Int) hbbr;have HEQ:=A5 hE;have HBQ:=A5 hB;clear hE hB hbbr hb ek hFR hlt hLl;(go_wp2_with fail);rw[HV.out];exact bodyPost_ret (v:=.tuple #[.slice (some ⟨w.heap.size+1,0,none⟩) 0 0,.agg #[.int .i64 4,.int .i64 (E.length:Int)]]) (by simp[results,results11,go_sem,q0,q1]) rfl ⟨w.heap.size+1,0,rfl,HEQ.out,HBQ.out⟩
   ·(have hf':¬(FR:Int)<(ts.length:Int):=by omega);have hsp:=PU (some ⟨ga,0,none⟩) ca L wr hL1 (by rw[HLE.out];exact Gl ts es _) (fun h0=>JN HRL.out h0);have HV:Hid (KR ts=(Ah L 4096,(0:Int),(0:Int))):=A6 (by rw[HPG.out,if_neg hf,HLE.out]);generalize Ah L 4096=SPN at *;have HBR:=A5 hbbr;clear hbbr hb ek hFR hlt hLl q0 q1 f0 f1;(go_wp2_with fail);refine hsp.mono ?_;rintro e w8 ⟨g8,c8,rfl,hr8,hb8⟩;have hbb8:Bl wb w8:=Ab HBR.out hb8;obtain⟨⟨q0,q1⟩,f0,f1⟩:=HQ.out w8 hbb8;have hg8:=(hr8.own g8 rfl).1
    have HR8:Hid (A8 AA ((w8.setCell ⟨w.heap.size,0,none⟩ (.int .i64 0)).setCell ⟨w.heap.size,1,none⟩ (.int .i64 0)) w.heap.size (.slice (some ⟨g8,0,none⟩) SPN.length c8) SPN):=A6 (by
     refine((hr8.kept (B7 (World.grownBy.refl _ _) 0 _) ?_).kept (B7 (World.grownBy.refl _ _) 1 _) ?_).rebase (by omega)
     all_goals
      intro q hq
      have:g8=q:=by simpa [Value.ownBlock] using hq
      simp;omega)
    have HB8:Hid (Bl w ((w8.setCell ⟨w.heap.size,0,none⟩ (.int .i64 0)).setCell ⟨w.heap.size,1,none⟩ (.int .i64 0))):=A6 (HBB.out.trans (((hbb8.mono (by omega)).setCell (by simp) _).setCell (by simp) _));clear hsp hr8 hb8 hbb8;(go_wp2_with fail);rw[HV.out];exact bodyPost_ret (v:=.tuple #[.slice (some ⟨g8,0,none⟩) SPN.length c8,.agg #[.int .i64 0,.int .i64 0]]) (by simp[results,results11,go_sem,q0,q1]) rfl ⟨g8,c8,rfl,HR8.out,HB8.out⟩
def Ba (v:Int) (cs:List Int) (p:Nat):List AE:=(J8 (GV v cs p)).1
theorem Gi(v:Int)(cs:List Int)(p:Nat):(Ba v cs p).length<=4096/\∀i,i<(Ba v cs p).length->Ti (AQ AA (Ba v cs p) i):=by
 obtain⟨h1,h2⟩:=Yl (GV v cs p);refine⟨h1,fun i hi=>h2 _ ?_⟩;unfold AQ;unfold Ba at hi ⊢;rw[List.getD_eq_getElem?_getD,List.getElem?_eq_getElem hi];exact List.getElem_mem _
def IT (w:World) (l:List AE) (q:Nat) (e:Ending) (w':World):Prop :=
 ∃g c,e=.returned (.tuple #[.slice (some ⟨g,0,none⟩) l.length c,.int .i64 (q:Int)])/\A8 AA w' w.heap.size (.slice (some ⟨g,0,none⟩) l.length c) l/\Bl w w'
theorem DR(v:Int)(hv:v=0\/v=1)(a:Option Addr)(cap:Nat)(cs:List Int)(p:Nat)(w:World)(hc:Ia cs)(hp:p<=90000)(hs:On w a cs):Calls prog 66 #[.slice a cs.length cap,.int .i64 (p:Int),.int .i64 v] w fun e w'=>IT w (Ba v cs p) (p+5*FT cs) e w':=by
 have t1:=OH v hv a cap cs p w hc hp hs;have hlen:=(Mh v cs p hc hp).2;have HT:Hid (∀wX,Calls prog 11 #[.string (bs (GV v cs p))] wX fun e w'=>Ih wX (J8 (GV v cs p)) e w'):=A6 fun wX=>NU _ wX (by omega)
 have HS:Hid (Ba v cs p=(J8 (GV v cs p)).1):=A6 rfl;generalize Ba v cs p=L at *;generalize J8 (GV v cs p)=R at *;generalize GV v cs p=T at *;generalize p+5*FT cs=q at *;obtain⟨R1,R2,R3⟩:=R;obtain rfl:L=R1:=HS.out;clear hc hs HS hv;go_enter func66,ntmps66
 go_wp2_with fail
 refine t1.mono ?_;rintro e w1 ⟨rfl,hb1⟩;have t2:=HT.out w1;have HB1:=A5 hb1;clear t1 hb1 HT;go_wp2_with fail
 refine t2.mono ?_;rintro e w2 ⟨g,c1,rfl,hr,hb2⟩;have HR:Hid (A8 AA w2 w.heap.size (.slice (some ⟨g,0,none⟩) L.length c1) L):=A6 (hr.rebase HB1.out.size);have HB2:=A5 (Ab HB1.out hb2);clear t2 hb2 hr;go_wp2_with fail
 refine bodyPost_ret (v:=.tuple #[.slice (some ⟨g,0,none⟩) L.length c1,.int .i64 (q:Int)]) (by simp[results,results66,go_sem]) rfl ⟨g,c1,rfl,HR.out.below ?_,HB2.out.trans (Below.mono ?_ HB2.out.size)⟩
 ·exact AO
 ·exact AO
end
end Go.Proofs.YtnmhkgmmpkjjeaaGreat
