import Derived.Test.YtnmhkgmmpkjjeaaGreatM00
namespace Go.Proofs.YtnmhkgmmpkjjeaaGreat
open ChangeShapes WideShapes ChangeAt RowKit Proofs.Tryz
set_option linter.all false
set_option maxRecDepth 100000
set_option maxHeartbeats 4000000
def On (w:World) (a:Option Addr) (cs:List Int):Prop :=
 0<cs.length->∃b o,a=some ⟨b,o,none⟩/\b<w.heap.size/\∀i,i<cs.length->w.cell? ⟨b,o+i,none⟩=some (.int .u8 (cs.getD i 0))
theorem On.below{w w':World}{a:Option Addr}{cs:List Int}(h:On w a cs)(hb:Bl w w'):On w' a cs:=by
 intro h0;obtain⟨b,o,rfl,hbl,hc⟩:=h h0;exact⟨b,o,rfl,Nat.lt_of_lt_of_le hbl hb.size,fun i hi=>(hb.cell hbl).trans (hc i hi)⟩
def Ia (cs:List Int):Prop:=cs.length<=1048576/\∀i,0<=cs.getD i 0/\cs.getD i 0<256
def WV (cs:List Int) (p:Nat):Int:=cs.getD (p%cs.length) 0*131+cs.getD ((p*7+3)%cs.length) 0*1117+p*29+((p/cs.length:Nat):Int)*53
def Bh (cs:List Int) (p:Nat) (n:Int):Int :=
 if n<1\/cs.length=0 then 0
 else if p<cs.length then (if 256<n then (cs.getD p 0*251+cs.getD ((p+1)%cs.length) 0*7+p)%n else cs.getD p 0%n)
 else bits .xor .i64 (WV cs p) (WV cs p/64)%n
theorem YX(cs:List Int)(p:Nat)(hc:Ia cs)(hp:p<=1000000):0<=WV cs p/\WV cs p<1000000000:=by
 have h1:=hc.2 (p%cs.length);have h2:=hc.2 ((p*7+3)%cs.length);have h3:p/cs.length<=p:=Nat.div_le_self _ _;unfold WV;generalize p/cs.length=D at *;omega
theorem Yf(x y:Int)(hx:0<=x)(hx1:x<1073741824)(hy:0<=y)(hy1:y<1073741824):0<=bits .xor .i64 x y/\bits .xor .i64 x y<1073741824:=by
 obtain⟨a,rfl⟩:=Int.eq_ofNat_of_zero_le hx;obtain⟨b,rfl⟩:=Int.eq_ofNat_of_zero_le hy;have hz:a ^^^ b<2 ^ 30:=Nat.xor_lt_two_pow (by omega) (by omega);have h1:(BitVec.ofInt 64 (a:Int)).toNat=a:=by
  rw[BitVec.ofInt_natCast,BitVec.toNat_ofNat];exact Nat.mod_eq_of_lt (by omega)
 have h2:(BitVec.ofInt 64 (b:Int)).toNat=b:=by
  rw[BitVec.ofInt_natCast,BitVec.toNat_ofNat];exact Nat.mod_eq_of_lt (by omega)
 have e:bits .xor .i64 (a:Int) (b:Int)=((a ^^^ b:Nat):Int):=by
  show IntKind.i64.wrap ((BitVec.ofInt 64 (a:Int) ^^^ BitVec.ofInt 64 (b:Int)).toNat:Int)=_;rw[BitVec.toNat_xor,h1,h2,IntKind.wrap_i64];omega
 rw[e];omega
theorem Cf(cs:List Int)(p:Nat)(n:Int)(hn:1<=n)(hc:Ia cs)(hp:p<=1000000):0<=Bh cs p n/\Bh cs p n<n:=by
 have hm:∀x:Int,0<=x%n/\x%n<n:=fun x=>⟨Int.emod_nonneg _ (by omega),Int.emod_lt_of_pos _ (by omega)⟩
 unfold Bh;split
 ·omega
 ·split
  ·split
   ·exact hm _
   ·exact hm _
  ·exact hm _
theorem Ed(a:Option Addr)(cap:Nat)(cs:List Int)(p:Nat)(n:Int)(w:World)(hc:Ia cs)(hp:p<=1000000)(hn:n<=1000000)(hs:On w a cs):Calls prog 64 #[.slice a cs.length cap,.int .i64 (p:Int),.int .i64 n] w (AM w (.tuple #[.int .i64 (Bh cs p n),.int .i64 ((p:Int)+1)])):=by
 have hl:=hc.1;unfold Bh;by_cases h1:n<1
 ·rw[if_pos (.inl h1)];clear hs hc;go_enter func64,ntmps64
  go_wp2
  go_ret2
  exact⟨rfl,AH⟩
 ·by_cases h2:cs.length=0
  ·rw[if_pos (.inr h2)];rw[h2];clear hs hc h2;(go_enter func64,ntmps64);(go_wp2);(go_ret2);exact⟨rfl,AH⟩
  ·rw[if_neg (by omega)];obtain⟨b,o,rfl,hbl,hcell⟩:=hs (by omega);clear hs;have L0:((cs.length:Int)==0)=false:=beq_eq_false_iff_ne.2 (by omega);by_cases h3:p<cs.length
   ·rw[if_pos h3];have c0:=hcell p h3;have g0:=hc.2 p;(have L1:(0:Int)<=(p:Int):=by omega);(have L2:(p:Int)<(cs.length:Int):=by omega);by_cases h4:256<n
    ·rw[if_pos h4];have j0:(p+1)%cs.length<cs.length:=Nat.mod_lt _ (by omega);have c1:=hcell _ j0;have g1:=hc.2 ((p+1)%cs.length);have E1:((p:Int)+1).tmod (cs.length:Int)=(((p+1)%cs.length:Nat):Int):=by
      rw[Int.tmod_eq_emod_of_nonneg (by omega)];simp
     generalize (p+1)%cs.length=J at *;generalize cs.getD p 0=X at *;generalize cs.getD J 0=Y at *;(have J1:(0:Int)<=(J:Int):=by omega);(have J2:(J:Int)<(cs.length:Int):=by omega);have E2:(X*251+Y*7+(p:Int)).tmod n=(X*251+Y*7+(p:Int))%n:=Int.tmod_eq_emod_of_nonneg (by omega);clear hcell hc h2;(go_enter func64,ntmps64);(go_wp2);(go_quiet (fail));(go_wp2);(go_ret2);exact⟨rfl,CY AH _⟩
    ·rw[if_neg h4];generalize cs.getD p 0=X at *;have E2:X.tmod n=X%n:=Int.tmod_eq_emod_of_nonneg (by omega);clear hcell hc h2;(go_enter func64,ntmps64);(go_wp2);(go_ret2);exact⟨rfl,AH⟩
   ·rw[if_neg h3];have hX:=YX cs p hc hp;have i0:p%cs.length<cs.length:=Nat.mod_lt _ (by omega);have j0:(p*7+3)%cs.length<cs.length:=Nat.mod_lt _ (by omega);have c0:=hcell _ i0;have c1:=hcell _ j0;have g0:=hc.2 (p%cs.length);have g1:=hc.2 ((p*7+3)%cs.length);have q0:p/cs.length<=p:=Nat.div_le_self _ _;have E1:(p:Int).tmod (cs.length:Int)=((p%cs.length:Nat):Int):=by
     rw[Int.tmod_eq_emod_of_nonneg (by omega)];simp
    have E2:((p:Int)*7+3).tmod (cs.length:Int)=(((p*7+3)%cs.length:Nat):Int):=by
     rw[Int.tmod_eq_emod_of_nonneg (by omega)];simp
    have E3:(p:Int).tdiv (cs.length:Int)=((p/cs.length:Nat):Int):=by
     rw[Int.tdiv_eq_ediv_of_nonneg (by omega)];simp
    have eX:WV cs p=cs.getD (p%cs.length) 0*131+cs.getD ((p*7+3)%cs.length) 0*1117+p*29+((p/cs.length:Nat):Int)*53:=rfl;have hxb:=Yf (WV cs p) (WV cs p/64) hX.1 (by omega) (by omega) (by omega);generalize p%cs.length=I at *;generalize (p*7+3)%cs.length=J at *;generalize p/cs.length=D at *;generalize cs.getD I 0=X at *;generalize cs.getD J 0=Y at *;generalize WV cs p=Z at *;(have I1:(0:Int)<=(I:Int):=by omega);(have I2:(I:Int)<(cs.length:Int):=by omega);(have J1:(0:Int)<=(J:Int):=by omega);(have J2:(J:Int)<(cs.length:Int):=by omega);(have P1:¬(p:Int)<(cs.length:Int):=by omega);have e4:X*131+Y*1117+(p:Int)*29+(D:Int)*53=Z:=eX.symm;have E5:Z.tdiv 64=Z/64:=Int.tdiv_eq_ediv_of_nonneg (by omega);have E6:(bits .xor .i64 Z (Z/64)).tmod n=bits .xor .i64 Z (Z/64)%n:=Int.tmod_eq_emod_of_nonneg (by omega);clear hcell hc h2 eX;(go_enter func64,ntmps64);(go_wp2);(go_ret2);exact⟨rfl,AH⟩
theorem PH(a:Option Addr)(cap:Nat)(cs:List Int)(per lo hi:Int)(w:World)(hl:cs.length<=1048576)(hp:1<=per)(hlo:0<=lo)(hlo1:lo<=100000):Calls prog 138 #[.slice a cs.length cap,.int .i64 per,.int .i64 lo,.int .i64 hi] w (AM w (.int .i64 (if hi<lo+(cs.length:Int)/per then hi else lo+(cs.length:Int)/per))):=by
 have E1:(cs.length:Int).tdiv per=(cs.length:Int)/per:=Int.tdiv_eq_ediv_of_nonneg (by omega);have B0:0<=(cs.length:Int)/per:=Int.ediv_nonneg (by omega) (by omega);have B1:(cs.length:Int)/per<=(cs.length:Int):=Int.ediv_le_self _ (by omega);generalize (cs.length:Int)/per=D at *;by_cases h:hi<lo+D
 ·rw[if_pos h];go_enter func138,ntmps138
  go_wp2
  go_ret;exact⟨rfl,AH⟩
 ·rw[if_neg h];go_enter func138,ntmps138
  go_wp2
  go_ret;exact⟨rfl,AH⟩
structure CU where
 page:Int
 count:Int
 out:Int
 perm:Int
 huge:Bool
 same:Int
 gone:Bool
def Ag:Dw CU:=⟨294,7,fun x=>[.int .i64 x.page,.int .i64 x.count,.int .i64 x.out,.int .i64 x.perm,.bool x.huge,.int .i64 x.same,.bool x.gone],⟨0,0,0,0,false,0,false⟩,by omega,fun _=>rfl⟩
theorem UO:(prog.info? 294).map (fun i=>(i.zero,i.size,i.bytes))=some (some (.agg #[.int .i64 0,.int .i64 0,.int .i64 0,.int .i64 0,.bool false,.int .i64 0,.bool false]),7,56):=by kernel_rfl
def EI (i:Nat) (a slot:Int):Int:=if i=0 then slot else slot+1+(if 2<a then a-2 else 0)+(if a=5 then 3 else 0)
def ZF (i:Nat) (slot b c:Int):CU:=⟨slot*64,b+1,1024*(i:Int)+16,c%7+1,decide (10<=c),-1,false⟩
def Yj (b:Int) (x:CU):CU:=if 6<=b then ⟨x.page,(b-5)*8,x.out,x.perm,x.huge,x.same,x.gone⟩ else x
def Yp (b:Int) (x:CU):CU:=if b=11 then ⟨x.page,64,x.out,x.perm,x.huge,x.same,x.gone⟩ else x
def Yw (b d:Int) (x:CU):CU:=if d%4=0/\b<10 then ⟨x.page+5,x.count,x.out+5,x.perm,x.huge,x.same,x.gone⟩ else x
def YY (d:Int) (x:CU):CU:=if d=1 then ⟨x.page,x.count,x.out+3,x.perm,x.huge,x.same,x.gone⟩ else x
def ZG (i:Nat) (d:Int) (l:List CU) (x:CU):CU :=
 if (d=2\/12<=d)/\0<i/\(AQ Ag l (i-1)).same<0 then
  ⟨(AQ Ag l (i-1)).page+(AQ Ag l (i-1)).count,if 40<x.count then 40 else x.count,(AQ Ag l (i-1)).out+(AQ Ag l (i-1)).count,if d=13 then x.perm else (AQ Ag l (i-1)).perm,(AQ Ag l (i-1)).huge,x.same,x.gone⟩
 else x
def ZH (i:Nat) (d:Int) (l:List CU) (x:CU):CU :=
 if d=3/\0<i/\(AQ Ag l 0).count<=48 then ⟨x.page,(AQ Ag l 0).count,(AQ Ag l 0).out,x.perm%3+1,x.huge,0,x.gone⟩ else x
def Zn (e:Int) (x:CU):CU:=if e=7 then ⟨x.page,x.count,x.out,x.perm,x.huge,x.same,true⟩ else x
def ZK (x:CU):CU:=if x.same=0 then ⟨x.page,x.count,x.out,(x.perm-1)%3+1,x.huge,x.same,x.gone⟩ else x
def ZJ (c e:Int) (x:CU):CU:=if e=8\/e=9\/e=5\/e=1 then ⟨x.page,x.count,x.out,(x.perm+c)%7+1,x.huge,x.same,x.gone⟩ else x
def Z7 (i:Nat) (e:Int) (x:CU):CU:=if e=10\/e=4\/(e=0/\i=1) then ⟨x.page,x.count,x.out,x.perm,x.huge,x.same,true⟩ else x
def ZC (e:Int) (x:CU):CU:=if e=11\/e=12\/e=6 then ⟨x.page,x.count,x.out,x.perm,!x.huge,x.same,x.gone⟩ else x
def ZB (c d e:Int) (x:CU):CU:=if e=13/\d<12/\d≠2/\x.page%16+x.count<48 then ⟨x.page+1+c%2*15,x.count,x.out,x.perm,x.huge,x.same,x.gone⟩ else x
def ZD (d e:Int) (x:CU):CU:=if e=14/\x.same<0/\d<12/\d≠2 then ⟨x.page,x.count,x.out+32,x.perm,x.huge,x.same,x.gone⟩ else x
def ZE (i:Nat) (e:Int) (x:CU):CU:=if e=15/\1<x.count/\x.same<0/\0<i then ⟨x.page,x.count/2,x.out,x.perm,x.huge,x.same,x.gone⟩ else x
def YM (i:Nat) (c d e:Int) (x:CU):CU:=ZE i e (ZD d e (ZB c d e (ZC e (Z7 i e (ZJ c e x)))))
def QI (v:Int) (i:Nat) (c d e:Int) (x:CU):CU:=if v=1 then YM i c d e x else Zn e x
def Lx (v:Int) (i:Nat) (slot b c d e:Int) (l:List CU):CU:=ZK (QI v i c d e (ZH i d l (ZG i d l (YY d (Yw b d (Yp b (Yj b (ZF i slot b c))))))))
def Au (v:Int) (cs:List Int) (p:Nat):Nat->List CU×Int
 | 0=>([],0)
 | k+1=>((Au v cs p k).1++[Lx v k (EI k (Bh cs (p+5*k) 6) (Au v cs p k).2) (Bh cs (p+5*k+1) 12) (Bh cs (p+5*k+2) 32) (Bh cs (p+5*k+3) 16) (Bh cs (p+5*k+4) 16) (Au v cs p k).1],EI k (Bh cs (p+5*k) 6) (Au v cs p k).2)
def FT (cs:List Int):Nat:=if 8<3+cs.length/12 then 8 else 3+cs.length/12
theorem Ja(cs:List Int):3<=FT cs/\FT cs<=8:=by unfold FT;split<;>omega
structure AB (K:Int) (x:CU):Prop where
 p:0<=x.page/\x.page<=K
 c:0<=x.count/\x.count<=64
 o:0<=x.out/\x.out<=K
 r:1<=x.perm/\x.perm<=7
 s:x.same=-1\/x.same=0
theorem AB.mono{K K':Int}{x:CU}(h:AB K x)(hk:K<=K'):AB K' x:=⟨by have:=h.p;omega,h.c,by have:=h.o;omega,h.r,h.s⟩
theorem Xy{i:Nat}{slot b c:Int}(hi:i<=8)(hs:0<=slot/\slot<=7*((i:Int)+1))(hb:0<=b/\b<12)(hc:0<=c):AB 19000 (ZF i slot b c):=by
 unfold ZF;exact⟨by dsimp only;omega,by dsimp only;omega,by dsimp only;omega,by dsimp only;omega,.inl rfl⟩
theorem Xw{b K:Int}{x:CU}(hb:0<=b/\b<12)(h:AB K x):AB K (Yj b x):=by
 unfold Yj;split
 ·exact⟨h.p,by dsimp only;omega,h.o,h.r,h.s⟩
 ·exact h
theorem Y0{b K:Int}{x:CU}(h:AB K x):AB K (Yp b x):=by
 unfold Yp;split
 ·exact⟨h.p,by dsimp only;omega,h.o,h.r,h.s⟩
 ·exact h
theorem Xq{b d K:Int}{x:CU}(h:AB K x):AB (K+5) (Yw b d x):=by
 unfold Yw;split
 ·exact⟨by have:=h.p;dsimp only;omega,h.c,by have:=h.o;dsimp only;omega,h.r,h.s⟩
 ·exact h.mono (by omega)
theorem Xn{d K:Int}{x:CU}(h:AB K x):AB (K+5) (YY d x):=by
 unfold YY;split
 ·exact⟨by have:=h.p;dsimp only;omega,h.c,by have:=h.o;dsimp only;omega,h.r,h.s⟩
 ·exact h.mono (by omega)
theorem Y9{i:Nat}{d K:Int}{l:List CU}{x:CU}(hl:∀j,j<i->AB K (AQ Ag l j))(h:AB K x):AB (K+64) (ZG i d l x):=by
 unfold ZG;split
 ·rename_i hh;have hp:=hl (i-1) (by omega);have h1:=hp.p;have h2:=hp.c;have h3:=hp.o;have h4:=h.c;refine⟨by dsimp only;omega,?_,by dsimp only;omega,?_,h.s⟩
  ·dsimp only;split<;>omega
  ·dsimp only;split
   ·exact h.r
   ·exact hp.r
 ·exact h.mono (by omega)
theorem Xg{i:Nat}{d K:Int}{l:List CU}{x:CU}(hl:∀j,j<i->AB K (AQ Ag l j))(h:AB K x):AB K (ZH i d l x):=by
 unfold ZH;split
 ·rename_i hh;have hp:=hl 0 (by omega);exact⟨h.p,hp.c,hp.o,by dsimp only;omega,.inr rfl⟩
 ·exact h
theorem Zc{e K:Int}{x:CU}(h:AB K x):AB K (Zn e x):=by
 unfold Zn;split
 ·exact⟨h.p,h.c,h.o,h.r,h.s⟩
 ·exact h
theorem Zf{K:Int}{x:CU}(h:AB K x):AB K (ZK x):=by
 unfold ZK;split
 ·exact⟨h.p,h.c,h.o,by dsimp only;omega,h.s⟩
 ·exact h
theorem Xz{c e:Int}{K:Int}{x:CU}(hc:0<=c)(h:AB K x):AB (K+0) (ZJ c e x):=by
 have h1:=h.p;have h2:=h.c;have h3:=h.o;unfold ZJ;split
 ·exact⟨by dsimp only;omega,by dsimp only;omega,by dsimp only;omega,by dsimp only;omega,h.s⟩
 ·exact h.mono (by omega)
theorem Xh{i:Nat}{e:Int}{K:Int}{x:CU}(h:AB K x):AB (K+0) (Z7 i e x):=by
 have h1:=h.p;have h2:=h.c;have h3:=h.o;unfold Z7;split
 ·exact⟨by dsimp only;omega,by dsimp only;omega,by dsimp only;omega,h.r,h.s⟩
 ·exact h.mono (by omega)
theorem Xv{e:Int}{K:Int}{x:CU}(h:AB K x):AB (K+0) (ZC e x):=by
 have h1:=h.p;have h2:=h.c;have h3:=h.o;unfold ZC;split
 ·exact⟨by dsimp only;omega,by dsimp only;omega,by dsimp only;omega,h.r,h.s⟩
 ·exact h.mono (by omega)
theorem Xj{c d e:Int}{K:Int}{x:CU}(hc:0<=c)(h:AB K x):AB (K+16) (ZB c d e x):=by
 have h1:=h.p;have h2:=h.c;have h3:=h.o;unfold ZB;split
 ·exact⟨by dsimp only;omega,by dsimp only;omega,by dsimp only;omega,h.r,h.s⟩
 ·exact h.mono (by omega)
theorem Xi{d e:Int}{K:Int}{x:CU}(h:AB K x):AB (K+32) (ZD d e x):=by
 have h1:=h.p;have h2:=h.c;have h3:=h.o;unfold ZD;split
 ·exact⟨by dsimp only;omega,by dsimp only;omega,by dsimp only;omega,h.r,h.s⟩
 ·exact h.mono (by omega)
theorem ZV{i:Nat}{e:Int}{K:Int}{x:CU}(h:AB K x):AB (K+0) (ZE i e x):=by
 have h1:=h.p;have h2:=h.c;have h3:=h.o;unfold ZE;split
 ·exact⟨by dsimp only;omega,by dsimp only;omega,by dsimp only;omega,h.r,h.s⟩
 ·exact h.mono (by omega)
theorem Ys{i:Nat}{c d e K:Int}{x:CU}(hc:0<=c)(h:AB K x):AB (K+64) (YM i c d e x):=by
 unfold YM;exact(ZV (Xi (Xj hc (Xv (Xh (Xz hc h)))))).mono (by omega)
theorem UE{v:Int}{i:Nat}{c d e K:Int}{x:CU}(hc:0<=c)(h:AB K x):AB (K+64) (QI v i c d e x):=by
 unfold QI;split
 ·exact Ys hc h
 ·exact(Zc h).mono (by omega)
theorem VZ{v:Int}{i:Nat}{slot b c d e:Int}{l:List CU}(hi:i<=8)(hs:0<=slot/\slot<=7*((i:Int)+1))(hb:0<=b/\b<12)(hc:0<=c)(hl:∀j,j<i->AB (19010+128*(i:Int)) (AQ Ag l j)):AB (19010+128*((i:Int)+1)) (Lx v i slot b c d e l):=by
 unfold Lx;have h4:AB (19000+5+5) (YY d (Yw b d (Yp b (Yj b (ZF i slot b c))))):=Xn (Xq (Y0 (Xw hb (Xy hi hs hb hc))));have h5:=Y9 (d:=d) hl (h4.mono (by omega));exact(Zf (UE hc (Xg (fun j hj=>(hl j hj).mono (by omega)) (h5.mono (Int.le_refl _))))).mono (by omega)
theorem Vz{α:Type}(E:Dw α)(l:List α)(x:α)(j:Nat):AQ E (l++[x]) j=if j<l.length then AQ E l j else if j=l.length then x else E.dflt:=by
 unfold AQ;rw[List.getD_eq_getElem?_getD,List.getD_eq_getElem?_getD,List.getElem?_append];split
 ·rfl
 ·split
  ·rename_i h1 h2;subst h2;simp
  ·rename_i h1 h2;rw[List.getElem?_eq_none (by simp;omega)];rfl
theorem Lf(v:Int)(cs:List Int)(p:Nat)(hc:Ia cs)(hp:p<=90000):∀k,k<=8->(Au v cs p k).1.length=k/\(0<=(Au v cs p k).2/\(Au v cs p k).2<=7*k)/\∀j,j<k->AB (19010+128*(k:Int)) (AQ Ag (Au v cs p k).1 j)
 | 0,_=>⟨rfl,by simp[Au],fun j hj=>by omega⟩
 | k+1,hk=>by
  obtain⟨h1,h2,h3⟩:=Lf v cs p hc hp k (by omega);have ba:=Cf cs (p+5*k) 6 (by omega) hc (by omega);have bb:=Cf cs (p+5*k+1) 12 (by omega) hc (by omega);have bc:=Cf cs (p+5*k+2) 32 (by omega) hc (by omega);have hsl:0<=EI k (Bh cs (p+5*k) 6) (Au v cs p k).2/\EI k (Bh cs (p+5*k) 6) (Au v cs p k).2<=7*((k:Int)+1):=by
   generalize Bh cs (p+5*k) 6=A at *;unfold EI;(repeat' split);all_goals omega
  refine⟨by simp[Au,h1],⟨hsl.1,by have:=hsl.2;show EI _ _ _<=_;omega⟩,fun j hj=>?_⟩;have hst:=VZ (v:=v) (e:=Bh cs (p+5*k+4) 16) (d:=Bh cs (p+5*k+3) 16) (c:=Bh cs (p+5*k+2) 32) (by omega) hsl bb bc.1 h3;show AB _ (AQ Ag ((Au v cs p k).1++[_]) j);rw[Vz,h1];split
  ·exact(h3 j (by omega)).mono (by omega)
  ·rw[if_pos (by omega)];exact hst.mono (by omega)
section
attribute [local go_sem ↓] wp_at_zero wp_at_succ
structure XB (w6 wz:World) (x:CU):Prop where
 c0:wz.cell? ⟨w6.heap.size,0,none⟩=some (.int .i64 x.page)
 c1:wz.cell? ⟨w6.heap.size,1,none⟩=some (.int .i64 x.count)
 c2:wz.cell? ⟨w6.heap.size,2,none⟩=some (.int .i64 x.out)
 c3:wz.cell? ⟨w6.heap.size,3,none⟩=some (.int .i64 x.perm)
 c4:wz.cell? ⟨w6.heap.size,4,none⟩=some (.bool x.huge)
 c5:wz.cell? ⟨w6.heap.size,5,none⟩=some (.int .i64 x.same)
 c6:wz.cell? ⟨w6.heap.size,6,none⟩=some (.bool x.gone)
 fz:∀i,i<7->wz.frozen? ⟨w6.heap.size,i,none⟩=false
 bel:Bl w6 wz
 lt:w6.heap.size<wz.heap.size
theorem XB.drew{w6 wz:World}{x:CU}(h:XB w6 wz x):XB w6 wz.drew x:=⟨h.c0,h.c1,h.c2,h.c3,h.c4,h.c5,h.c6,h.fz,h.bel.drew,h.lt⟩
theorem XB.below{w6 wz w1:World}{x:CU}(h:XB w6 wz x)(hb:Bl wz w1):XB w6 w1 x :=
 ⟨(hb.cell (p:=⟨w6.heap.size,0,none⟩) h.lt).trans h.c0,(hb.cell (p:=⟨w6.heap.size,1,none⟩) h.lt).trans h.c1,(hb.cell (p:=⟨w6.heap.size,2,none⟩) h.lt).trans h.c2,(hb.cell (p:=⟨w6.heap.size,3,none⟩) h.lt).trans h.c3,(hb.cell (p:=⟨w6.heap.size,4,none⟩) h.lt).trans h.c4,(hb.cell (p:=⟨w6.heap.size,5,none⟩) h.lt).trans h.c5,(hb.cell (p:=⟨w6.heap.size,6,none⟩) h.lt).trans h.c6,fun i hi=>(hb.frozen (p:=⟨w6.heap.size,i,none⟩) h.lt).trans (h.fz i hi),Ab h.bel hb,Nat.lt_of_lt_of_le h.lt hb.size⟩
theorem CP{wn:World}{Bm j:Nat}{v v0:Value}(h0:wn.cell? ⟨Bm,j,none⟩=some v0):(∀i,i≠j->(wn.setCell ⟨Bm,j,none⟩ v).cell? ⟨Bm,i,none⟩=wn.cell? ⟨Bm,i,none⟩)/\(wn.setCell ⟨Bm,j,none⟩ v).cell? ⟨Bm,j,none⟩=some v/\(∀i,(wn.setCell ⟨Bm,j,none⟩ v).frozen? ⟨Bm,i,none⟩=wn.frozen? ⟨Bm,i,none⟩)/\True :=
 ⟨fun i hi=>World.cell?_setCell_other _ _ _ _ (by intro e;injection e with _ e;exact hi e.symm),World.cell?_setCell_same _ _ _ h0,fun i=>World.frozen?_setCell _ _ _ _,trivial⟩
theorem XB.s0{w6 wz:World}{x:CU}(h:XB w6 wz x)(v:Int):XB w6 (wz.setCell ⟨w6.heap.size,0,none⟩ (.int .i64 v)) ⟨v,x.count,x.out,x.perm,x.huge,x.same,x.gone⟩:=by
 obtain⟨g1,g2,g3,g4⟩:=CP (v:=(.int .i64 v)) h.c0;exact⟨g2,(g1 1 (by omega)).trans h.c1,(g1 2 (by omega)).trans h.c2,(g1 3 (by omega)).trans h.c3,(g1 4 (by omega)).trans h.c4,(g1 5 (by omega)).trans h.c5,(g1 6 (by omega)).trans h.c6,fun i hi=>(g3 i).trans (h.fz i hi),h.bel.setCell (Nat.le_refl _) _,by simpa using h.lt⟩
theorem XB.s1{w6 wz:World}{x:CU}(h:XB w6 wz x)(v:Int):XB w6 (wz.setCell ⟨w6.heap.size,1,none⟩ (.int .i64 v)) ⟨x.page,v,x.out,x.perm,x.huge,x.same,x.gone⟩:=by
 obtain⟨g1,g2,g3,g4⟩:=CP (v:=(.int .i64 v)) h.c1;exact⟨(g1 0 (by omega)).trans h.c0,g2,(g1 2 (by omega)).trans h.c2,(g1 3 (by omega)).trans h.c3,(g1 4 (by omega)).trans h.c4,(g1 5 (by omega)).trans h.c5,(g1 6 (by omega)).trans h.c6,fun i hi=>(g3 i).trans (h.fz i hi),h.bel.setCell (Nat.le_refl _) _,by simpa using h.lt⟩
theorem XB.s2{w6 wz:World}{x:CU}(h:XB w6 wz x)(v:Int):XB w6 (wz.setCell ⟨w6.heap.size,2,none⟩ (.int .i64 v)) ⟨x.page,x.count,v,x.perm,x.huge,x.same,x.gone⟩:=by
 obtain⟨g1,g2,g3,g4⟩:=CP (v:=(.int .i64 v)) h.c2;exact⟨(g1 0 (by omega)).trans h.c0,(g1 1 (by omega)).trans h.c1,g2,(g1 3 (by omega)).trans h.c3,(g1 4 (by omega)).trans h.c4,(g1 5 (by omega)).trans h.c5,(g1 6 (by omega)).trans h.c6,fun i hi=>(g3 i).trans (h.fz i hi),h.bel.setCell (Nat.le_refl _) _,by simpa using h.lt⟩
theorem XB.s3{w6 wz:World}{x:CU}(h:XB w6 wz x)(v:Int):XB w6 (wz.setCell ⟨w6.heap.size,3,none⟩ (.int .i64 v)) ⟨x.page,x.count,x.out,v,x.huge,x.same,x.gone⟩:=by
 obtain⟨g1,g2,g3,g4⟩:=CP (v:=(.int .i64 v)) h.c3;exact⟨(g1 0 (by omega)).trans h.c0,(g1 1 (by omega)).trans h.c1,(g1 2 (by omega)).trans h.c2,g2,(g1 4 (by omega)).trans h.c4,(g1 5 (by omega)).trans h.c5,(g1 6 (by omega)).trans h.c6,fun i hi=>(g3 i).trans (h.fz i hi),h.bel.setCell (Nat.le_refl _) _,by simpa using h.lt⟩
theorem XB.s4{w6 wz:World}{x:CU}(h:XB w6 wz x)(v:Bool):XB w6 (wz.setCell ⟨w6.heap.size,4,none⟩ (.bool v)) ⟨x.page,x.count,x.out,x.perm,v,x.same,x.gone⟩:=by
 obtain⟨g1,g2,g3,g4⟩:=CP (v:=(.bool v)) h.c4;exact⟨(g1 0 (by omega)).trans h.c0,(g1 1 (by omega)).trans h.c1,(g1 2 (by omega)).trans h.c2,(g1 3 (by omega)).trans h.c3,g2,(g1 5 (by omega)).trans h.c5,(g1 6 (by omega)).trans h.c6,fun i hi=>(g3 i).trans (h.fz i hi),h.bel.setCell (Nat.le_refl _) _,by simpa using h.lt⟩
theorem XB.s5{w6 wz:World}{x:CU}(h:XB w6 wz x)(v:Int):XB w6 (wz.setCell ⟨w6.heap.size,5,none⟩ (.int .i64 v)) ⟨x.page,x.count,x.out,x.perm,x.huge,v,x.gone⟩:=by
 obtain⟨g1,g2,g3,g4⟩:=CP (v:=(.int .i64 v)) h.c5;exact⟨(g1 0 (by omega)).trans h.c0,(g1 1 (by omega)).trans h.c1,(g1 2 (by omega)).trans h.c2,(g1 3 (by omega)).trans h.c3,(g1 4 (by omega)).trans h.c4,g2,(g1 6 (by omega)).trans h.c6,fun i hi=>(g3 i).trans (h.fz i hi),h.bel.setCell (Nat.le_refl _) _,by simpa using h.lt⟩
theorem XB.s6{w6 wz:World}{x:CU}(h:XB w6 wz x)(v:Bool):XB w6 (wz.setCell ⟨w6.heap.size,6,none⟩ (.bool v)) ⟨x.page,x.count,x.out,x.perm,x.huge,x.same,v⟩:=by
 obtain⟨g1,g2,g3,g4⟩:=CP (v:=(.bool v)) h.c6;exact⟨(g1 0 (by omega)).trans h.c0,(g1 1 (by omega)).trans h.c1,(g1 2 (by omega)).trans h.c2,(g1 3 (by omega)).trans h.c3,(g1 4 (by omega)).trans h.c4,(g1 5 (by omega)).trans h.c5,g2,fun i hi=>(g3 i).trans (h.fz i hi),h.bel.setCell (Nat.le_refl _) _,by simpa using h.lt⟩
theorem A8.cellsA{α:Type}{E:Dw α}{w:World}{b g c:Nat}{xs:List α}(h:A8 E w b (.slice (some ⟨g,0,none⟩) xs.length c) xs):∀k,k<xs.length->g<w.heap.size/\∀j,j<E.sz->∀wX:World,wX.heap[g]?=w.heap[g]?->wX.cell? ⟨g,k*E.sz+j,none⟩=some (CM E xs k j):=by
 intro k hk;obtain⟨a',c',e',hf⟩:=h.form;obtain⟨g2,N,f,hag,hbg,hr,hN,hc⟩:=hf (by omega);simp only[Value.slice.injEq] at e';have hga:some (⟨g,0,none⟩:Addr)=some ⟨g2,0,none⟩:=e'.1.trans hag;simp only[Option.some.injEq,Addr.mk.injEq,and_true] at hga;subst hga;refine⟨hr.lt,fun j hj wX hX=>?_⟩;rw[(hr.of_block hX).cell (Nat.lt_of_lt_of_le (KS hk hj) hN)];exact congrArg some (hc k hk j hj)
theorem Jr{w:World}{b g c:Nat}{xs:List CU}(h:A8 Ag w b (.slice (some ⟨g,0,none⟩) xs.length c) xs){k:Nat}(hk:k<xs.length){x:CU}(he:AQ Ag xs k=x):g<w.heap.size/\∀wX:World,wX.heap[g]?=w.heap[g]?->wX.cell? ⟨g,k*7,none⟩=some (.int .i64 x.page)/\wX.cell? ⟨g,k*7+1,none⟩=some (.int .i64 x.count)/\wX.cell? ⟨g,k*7+2,none⟩=some (.int .i64 x.out)/\wX.cell? ⟨g,k*7+3,none⟩=some (.int .i64 x.perm)/\wX.cell? ⟨g,k*7+4,none⟩=some (.bool x.huge)/\wX.cell? ⟨g,k*7+5,none⟩=some (.int .i64 x.same)/\wX.cell? ⟨g,k*7+6,none⟩=some (.bool x.gone):=by
 obtain⟨h1,h2⟩:=h.cellsA k hk;refine⟨h1,fun wX hX=>?_⟩;have e0:∀j,CM Ag xs k j=((Ag.enc x)[j]?).getD (.bool false):=fun j=>by unfold CM;rw[he]
 have c:∀j,j<7->wX.cell? ⟨g,k*7+j,none⟩=some (CM Ag xs k j):=fun j hj=>h2 j hj wX hX
 exact⟨(c 0 (by omega)).trans (by rw[e0];rfl),(c 1 (by omega)).trans (by rw[e0];rfl),(c 2 (by omega)).trans (by rw[e0];rfl),(c 3 (by omega)).trans (by rw[e0];rfl),(c 4 (by omega)).trans (by rw[e0];rfl),(c 5 (by omega)).trans (by rw[e0];rfl),(c 6 (by omega)).trans (by rw[e0];rfl)⟩
end
end Go.Proofs.YtnmhkgmmpkjjeaaGreat
