import Derived.Test.YtnmhkgmmpkjjeaaGreatM32
import Derived.Test.YtnmhkgmmpkjjeaaGreatM30
namespace Go.Proofs.YtnmhkgmmpkjjeaaGreat
open ChangeShapes WideShapes ChangeAt RowKit Proofs.Tryz
set_option linter.all false
set_option maxRecDepth 100000
def bn (b:Bool):Nat:=if b then 1 else 0
theorem S8(b:Bool):bn b<=1:=by unfold bn;split<;>omega
def U1 (zs:List Int) (l p:Nat):Bool:=decide (0<=AI (A7 zs) l p)
def Ts (zs:List Int) (H:Nat->Ht) (l p:Nat):Bool:=decide (0<=AI (AW H (A7 zs)) l p)
def tB (zs:List Int) (H:Nat->Ht) (l p:Nat):Nat:=bn (Ts zs H l p&&!U1 zs l p)+bn (U1 zs l p&&!Ts zs H l p)
def J5 (a b:Di):Bool:=decide (a.kind=b.kind)&&decide (a.out=b.out)&&decide (a.perm=b.perm)&&decide (a.size=b.size)
theorem Hf{a b:Di}:J5 a b=true↔a=b:=by
 unfold J5;cases a;cases b;simp[and_assoc]
def MF (h:Ht):Di:=⟨h.k,h.o,h.p,h.s⟩
def Xo (zs:List Int) (H:Nat->Ht) (p:Nat):Bool:=!J5 (BG zs p) (MF (H p))
theorem NE{zs:List Int}{H:Nat->Ht}{p:Nat}(h:BG zs p≠MF (H p)):bn (Xo zs H p)=1:=by
 unfold Xo;cases hs:J5 (BG zs p) (MF (H p))
 ·rfl
 ·exact absurd (Hf.1 hs) h
def Q0 (zs:List Int) (H:Nat->Ht) (e:En):Nat:=bn (GW zs H (AW H (A7 zs)) e)+bn (MT zs H (AW H (A7 zs)) e)
theorem RC(zs:List Int)(H:Nat->Ht)(e:En):Q0 zs H e<=2:=by
 have h1:=S8 (GW zs H (AW H (A7 zs)) e);have h2:=S8 (MT zs H (AW H (A7 zs)) e);unfold Q0;omega
theorem JG{zs:List Int}{H:Nat->Ht}{e:En}(h:Fl zs e.ad=C3 H (AW H (A7 zs)) e.lv e.pg):Q0 zs H e=0:=by
 unfold Q0 GW MT;rw[decide_eq_false (fun hh=>hh.2 h),decide_eq_false (fun hh=>hh.2 h.symm)];rfl
theorem Kw{zs:List Int}{H:Nat->Ht}{e:En}(h:Fl zs e.ad%2=0):Q0 zs H e<=1/\(C3 H (AW H (A7 zs)) e.lv e.pg=0->Q0 zs H e=0):=by
 have h1:GW zs H (AW H (A7 zs)) e=false:=by unfold GW;exact decide_eq_false (fun hh=>by omega)
 have h2:=S8 (MT zs H (AW H (A7 zs)) e);refine⟨?_,fun hr=>?_⟩
 ·unfold Q0;rw[h1];show 0+_<=1;omega
 ·unfold Q0 MT;rw[h1,decide_eq_false (fun hh=>hh.1 hr)];rfl
theorem PK{zs:List Int}{H:Nat->Ht}{e:En}(h:C3 H (AW H (A7 zs)) e.lv e.pg=0):Q0 zs H e<=1:=by
 have h1:=S8 (GW zs H (AW H (A7 zs)) e);have h2:MT zs H (AW H (A7 zs)) e=false:=by unfold MT;exact decide_eq_false (fun hh=>hh.1 h)
 unfold Q0;rw[h2];show _+0<=1;omega
theorem Xl{zs:List Int}{H:Nat->Ht}{l p:Nat}(h1:0<=AI (AW H (A7 zs)) l p)(h2:¬0<=AI (A7 zs) l p):tB zs H l p=1:=by
 unfold tB Ts U1;rw[decide_eq_true h1,decide_eq_false h2];rfl
theorem YF{zs:List Int}{H:Nat->Ht}{l p:Nat}(h1:¬0<=AI (AW H (A7 zs)) l p)(h2:0<=AI (A7 zs) l p):tB zs H l p=1:=by
 unfold tB Ts U1;rw[decide_eq_false h1,decide_eq_true h2];rfl
theorem Vq(H:Nat->Ht)(all:List P3)(p:Nat):C3 H all 1 p=if AI all 2 p<0 then 0 else Aw 1 1 (AI all 2 p) 0:=by
 unfold C3;rw[if_neg (by decide),if_neg (fun h=>absurd h.1 (by decide))];rfl
theorem Ug(H:Nat->Ht)(all:List P3)(p:Nat):C3 H all 2 p=if (H p).s=16 then Aw 2 2 (H p).o (H p).p else if AI all 3 p<0 then 0 else Aw 2 1 (AI all 3 p) 0:=by
 unfold C3;rw[if_neg (by decide),Int.toNat_natCast];by_cases h:(H p).s=16
 ·rw[if_pos ⟨rfl,h⟩,if_pos h]
 ·rw[if_neg (fun hh=>h hh.2),if_neg h];rfl
theorem Zd(H:Nat->Ht)(all:List P3)(p:Nat):C3 H all 3 p=if (H p).k=1 then Aw 3 3 (H p).o (H p).p else 0:=by
 unfold C3;rw[if_pos rfl,Int.toNat_natCast]
theorem Ap.keep2{zs:List Int}{n:Nat}{H:Nat->Ht}(h:Ap zs n H){p:Nat}(hp:p<4096)(hm:p%256=0)(hl:Av n 1 (DG zs p)=true)(hn:0<=AI (AW H (A7 zs)) 2 p):AI (AW H (A7 zs)) 2 p=AX 1 (DG zs p):=by
 have hd:=h.now (l:=2) (P:=p) hn;have e:=(h.o2 p hp hm).1 hl;have hk:=h.kp 2 p;rw[if_pos hd] at hk;rw[show ((2:Nat):Int)=2 from rfl,e] at hk;have h0:0<=AX 1 (DG zs p):=by
  rcases h.c1 p hp with⟨_,_,hh⟩|⟨_,_,hh⟩
  ·rw[hl] at hh;cases hh
  ·exact hh
 have:=h.al 2 p (by rw[show ((2:Nat):Int)=2 from rfl,hk];exact h0);rw[show ((2:Nat):Int)=2 from rfl,hk] at this;exact this
theorem Ap.cost1{zs:List Int}{n:Nat}{H:Nat->Ht}(h:Ap zs n H){p:Nat}(hp:p<4096)(hm:p%256=0){ad:Int}(ha:Fl zs ad=DG zs p):Q0 zs H ⟨1,p,ad⟩<=tB zs H 2 p/\(GW zs H (AW H (A7 zs)) ⟨1,p,ad⟩=true->nd H 2 p=false):=by
 rcases h.c1 p hp with⟨he,hk,hl⟩|⟨hl,hc,h0⟩
 ·have hev:=Kw (zs:=zs) (H:=H) (e:=⟨1,p,ad⟩) (by dsimp only;rw[ha];exact he);refine⟨?_,fun hb=>?_⟩
  ·by_cases hn:0<=AI (AW H (A7 zs)) 2 p
   ·have:=Xl (zs:=zs) (H:=H) (l:=2) (p:=p) hn (fun ho=>by
     have:=(h.o2 p hp hm).2 ho
     rw[hl] at this;cases this)
    omega
   ·rw[hev.2 (by dsimp only;rw[Vq,if_pos (by omega)])];exact Nat.zero_le _
  ·unfold GW at hb;have:=(of_decide_eq_true hb).1;dsimp only at this;rw[ha] at this;omega
 ·by_cases hn:0<=AI (AW H (A7 zs)) 2 p
  ·have e:=h.keep2 hp hm hl hn;(have hs:Fl zs ad=C3 H (AW H (A7 zs)) 1 p:=by rw[ha,Vq,if_neg (by omega),e];exact hc);refine⟨?_,fun hb=>?_⟩
   ·rw[JG (e:=⟨1,p,ad⟩) hs];exact Nat.zero_le _
   ·unfold GW at hb;exact absurd hs (of_decide_eq_true hb).2
  ·refine⟨?_,fun hb=>?_⟩
   ·have h1:=PK (zs:=zs) (H:=H) (e:=⟨1,p,ad⟩) (by dsimp only;rw[Vq,if_pos (by omega)])
    have h2:=YF (zs:=zs) (H:=H) (l:=2) (p:=p) hn (by
     rw[show ((2:Nat):Int)=2 from rfl,(h.o2 p hp hm).1 hl];exact h0)
    omega
   ·cases hd:nd H 2 p
    ·rfl
    ·exact absurd (h.n2' hp hm hd) hn
theorem Ap.walk1{zs:List Int}{n:Nat}{H:Nat->Ht}(h:Ap zs n H){p:Nat}(hp:p<4096)(hl:Av n 1 (DG zs p)=true):BG zs p=BK n p 2 (DW zs p) (BK n p 3 (JD zs p) ⟨0,0,0,0⟩):=by
 have hn0:An zs.length≠0:=by rw[h.nf];have:=h.pos;omega
 rw[Ni zs p hn0 hp,h.nf];obtain⟨a,b⟩:=(G1 _ _ _).1 hl;exact G4 _ _ _ _ _ a b (by decide)
theorem Ap.walk2{zs:List Int}{n:Nat}{H:Nat->Ht}(h:Ap zs n H){p:Nat}(hp:p<4096)(hl:Av n 1 (DG zs p)=true)(hl2:Av n 2 (DW zs p)=true):BG zs p=BK n p 3 (JD zs p) ⟨0,0,0,0⟩:=by
 rw[h.walk1 hp hl];obtain⟨a,b⟩:=(G1 _ _ _).1 hl2;exact G4 _ _ _ _ _ a b (by decide)
theorem Fq(n p l x:Int)(R:Di)(h:AG l x=0):BK n p l x R=⟨0,0,0,0⟩:=by unfold BK;rw[if_pos h]
theorem Ls(n p l x:Int)(R:Di)(h:AG l x=2):BK n p l x R=⟨1,AX l x+p%16,Ak l x,16⟩:=by
 unfold BK;rw[if_neg (by omega),if_neg (fun hh=>by omega),if_pos h]
theorem MX(n p l x:Int)(R:Di)(h:AG l x=3):BK n p l x R=⟨1,AX l x,Ak l x,1⟩:=by
 unfold BK;rw[if_neg (by omega),if_neg (fun hh=>by omega),if_neg (by omega),if_pos h]
theorem Ap.small{zs:List Int}{n:Nat}{H:Nat->Ht}(h:Ap zs n H){p:Nat}(hp:p<4096)(hl:Av n 1 (DG zs p)=true)(hl2:Av n 2 (DW zs p)=true):(BG zs p).size≠16:=by
 rw[h.walk2 hp hl hl2];rcases h.c3 p hp hl hl2 with⟨_,hk⟩|⟨hk,_⟩
 ·rw[Fq _ _ _ _ _ hk];decide
 ·rw[MX _ _ _ _ _ hk];exact(by decide:(1:Int)≠16)
theorem Ap.cost3{zs:List Int}{n:Nat}{H:Nat->Ht}(h:Ap zs n H){p:Nat}(hp:p<4096)(hl:Av n 1 (DG zs p)=true)(hl2:Av n 2 (DW zs p)=true){ad:Int}(ha:Fl zs ad=JD zs p)(hs:BG zs p=MF (H p)):Q0 zs H ⟨3,p,ad⟩=0/\GW zs H (AW H (A7 zs)) ⟨3,p,ad⟩=false:=by
 rw[h.walk2 hp hl hl2] at hs;rcases h.c3 p hp hl hl2 with⟨he,hk⟩|⟨hk,hc⟩
 ·rw[Fq _ _ _ _ _ hk] at hs;have hk0:(H p).k=0:=(congrArg Di.kind hs).symm;refine⟨(Kw (e:=⟨3,p,ad⟩) (by dsimp only;rw[ha];exact he)).2 (by dsimp only;rw[Zd,if_neg (by omega)]),?_⟩;unfold GW;refine decide_eq_false (fun hh=>?_);have:=hh.1;dsimp only at this;rw[ha] at this;omega
 ·rw[MX _ _ _ _ _ hk] at hs;have hk1:(H p).k=1:=(congrArg Di.kind hs).symm;have hko:(H p).o=AX 3 (JD zs p):=(congrArg Di.out hs).symm;have hkp:(H p).p=Ak 3 (JD zs p):=(congrArg Di.perm hs).symm;have hr:Fl zs ad=C3 H (AW H (A7 zs)) 3 p:=by rw[ha,Zd,if_pos hk1,hko,hkp];exact hc
  refine⟨JG (e:=⟨3,p,ad⟩) hr,?_⟩;unfold GW;exact decide_eq_false (fun hh=>hh.2 hr)
theorem Ap.keep3{zs:List Int}{n:Nat}{H:Nat->Ht}(h:Ap zs n H){p:Nat}(hp:p<4096)(hm:p%16=0)(hl:Av n 1 (DG zs p)=true)(hl2:Av n 2 (DW zs p)=true)(hn:0<=AI (AW H (A7 zs)) 3 p):AI (AW H (A7 zs)) 3 p=AX 2 (DW zs p):=by
 have hd:=h.now (l:=3) (P:=p) hn;have e:=(h.o3 p hp hm).1 hl hl2;have hk:=h.kp 3 p;rw[if_pos hd] at hk;rw[show ((3:Nat):Int)=3 from rfl,e] at hk;have h0:0<=AX 2 (DW zs p):=by
  rcases h.c2 p hp hl with⟨_,_,hh⟩|⟨_,_,hh⟩|⟨_,hh,_⟩
  ·rw[hl2] at hh;cases hh
  ·exact hh
  ·rw[hl2] at hh;cases hh
 have:=h.al 3 p (by rw[show ((3:Nat):Int)=3 from rfl,hk];exact h0);rw[show ((3:Nat):Int)=3 from rfl,hk] at this;exact this
theorem Ap.k16{zs:List Int}{n:Nat}{H:Nat->Ht}(h:Ap zs n H){p:Nat}(hp:p<4096)(hs:(H p).s=16):(H p).k=1:=by
 by_cases hk:(H p).k=1
 ·exact hk
 ·have:=h.lay.zero p hp hk;rw[this] at hs;exact absurd hs (by decide)
theorem Ap.cost2{zs:List Int}{n:Nat}{H:Nat->Ht}(h:Ap zs n H){p:Nat}(hp:p<4096)(hm:p%16=0)(hl:Av n 1 (DG zs p)=true){ad:Int}(ha:Fl zs ad=DW zs p):Q0 zs H ⟨2,p,ad⟩=0\/(AI (AF H (A7 zs)) 3 p<0/\Q0 zs H ⟨2,p,ad⟩<=2*bn (Xo zs H p)+tB zs H 3 p):=by
 have hkk:=h.kp 3 p;rw[show ((3:Nat):Int)=3 from rfl] at hkk;have knone:Av n 2 (DW zs p)=false->AI (AF H (A7 zs)) 3 p<0:=fun hf=>by
  rw[hkk];split
  ·by_cases h0:0<=AI (A7 zs) 3 p
   ·have:=((h.o3 p hp hm).2 h0).2;rw[hf] at this;cases this
   ·omega
  ·omega
 rcases h.c2 p hp hl with⟨he,hk,hf⟩|⟨hl2,hc,h0⟩|⟨hk,hf,hc⟩
 ·right;refine⟨knone hf,?_⟩;have hev:=Kw (zs:=zs) (H:=H) (e:=⟨2,p,ad⟩) (by dsimp only;rw[ha];exact he);have hw:BG zs p=⟨0,0,0,0⟩:=by rw[h.walk1 hp hl,Fq _ _ _ _ _ hk]
  by_cases hs:(H p).s=16
  ·have:=NE (zs:=zs) (H:=H) (p:=p) (fun e=>by
    rw[hw] at e
    have h1:(0:Int)=(H p).k:=congrArg Di.kind e
    have:=h.k16 hp hs
    omega)
   omega
  ·by_cases hn:0<=AI (AW H (A7 zs)) 3 p
   ·have:=Xl (zs:=zs) (H:=H) (l:=3) (p:=p) hn (fun ho=>by
     have:=((h.o3 p hp hm).2 ho).2
     rw[hf] at this;cases this)
    omega
   ·rw[hev.2 (by dsimp only;rw[Ug,if_neg hs,if_pos (by omega)])];exact Nat.zero_le _
 ·by_cases hs:(H p).s=16
  ·right;have hd:=Pr h.lay p hp hm hs;refine⟨?_,?_⟩
   ·rw[hkk,if_neg (by rw[hd];decide)];decide
   ·have:=NE (zs:=zs) (H:=H) (p:=p) (fun e=>h.small hp hl hl2 (by rw[e];exact hs));have:=RC zs H ⟨2,p,ad⟩;omega
  ·by_cases hn:0<=AI (AW H (A7 zs)) 3 p
   ·left;have e:=h.keep3 hp hm hl hl2 hn;exact JG (e:=⟨2,p,ad⟩) (by dsimp only;rw[ha,Ug,if_neg hs,if_neg (by omega),e];exact hc)
   ·right;refine⟨?_,?_⟩
    ·rw[hkk];split
     ·rename_i hd;exact absurd (h.n3' hp hm hd) hn
     ·decide
    ·have h1:=PK (zs:=zs) (H:=H) (e:=⟨2,p,ad⟩) (by dsimp only;rw[Ug,if_neg hs,if_pos (by omega)])
     have h2:=YF (zs:=zs) (H:=H) (l:=3) (p:=p) hn (by
      rw[show ((3:Nat):Int)=3 from rfl,(h.o3 p hp hm).1 hl hl2];exact h0)
     omega
 ·right;refine⟨knone hf,?_⟩;have hw:BG zs p=⟨1,AX 2 (DW zs p)+(p:Int)%16,Ak 2 (DW zs p),16⟩:=by rw[h.walk1 hp hl,Ls _ _ _ _ _ hk]
  by_cases e:BG zs p=MF (H p)
  ·have hr:Fl zs ad=C3 H (AW H (A7 zs)) 2 p:=by
    rw[hw] at e;have e1:(H p).o=AX 2 (DW zs p)+(p:Int)%16:=(congrArg Di.out e).symm;have e2:(H p).p=Ak 2 (DW zs p):=(congrArg Di.perm e).symm;have e3:(H p).s=16:=(congrArg Di.size e).symm;rw[ha,Ug,if_pos e3,e1,e2,show (p:Int)%16=0 by omega,Int.add_zero];exact hc
   rw[JG (e:=⟨2,p,ad⟩) hr];exact Nat.zero_le _
  ·have:=NE e;have:=RC zs H ⟨2,p,ad⟩;omega
theorem Ap.wd1{zs:List Int}{n:Nat}{H:Nat->Ht}(h:Ap zs n H){p:Nat}(hp:p<4096)(hm:p%256=0):Fl zs (AI (AF H (A7 zs)) 1 (p-p%(256*16):Nat)*16+(p/256%16:Nat))=DG zs p:=by
 have hr:=(Ry H (by have:=h.pos;omega) h.plc).root;rw[show p-p%(256*16)=0 by omega,show ((0:Nat):Int)=0 from rfl,hr];unfold Fl DG;rw[Eu zs 0 (p/256) _ (by omega) (by omega)]
theorem Ap.wd2{zs:List Int}{n:Nat}{H:Nat->Ht}(h:Ap zs n H){p:Nat}(hp:p<4096)(hf:0<=AI (AF H (A7 zs)) 2 (p-p%(16*16):Nat)):Av n 1 (DG zs p)=true/\Fl zs (AI (AF H (A7 zs)) 2 (p-p%(16*16):Nat)*16+(p/16%16:Nat))=DW zs p:=by
 have hk:=h.kp 2 (p-p%(16*16));rw[show ((2:Nat):Int)=2 from rfl] at hk;have hw:DG zs (p-p%(16*16))=DG zs p:=by unfold DG;rw[show (p-p%(16*16))/256=p/256 by omega]
 split at hk
 ·rw[hk] at hf ⊢;have o:=h.o2 (p-p%(16*16)) (by omega) (by omega);have hl:=o.2 hf;have e:=o.1 hl;rw[hw] at hl e;refine⟨hl,?_⟩;rw[e] at hf ⊢;unfold Fl DW;exact Eu zs _ (p/16%16) _ hf rfl
 ·omega
theorem Ap.wd3{zs:List Int}{n:Nat}{H:Nat->Ht}(h:Ap zs n H){p:Nat}(hp:p<4096)(hf:0<=AI (AF H (A7 zs)) 3 (p-p%(1*16):Nat)):Av n 1 (DG zs p)=true/\Av n 2 (DW zs p)=true/\Fl zs (AI (AF H (A7 zs)) 3 (p-p%(1*16):Nat)*16+(p/1%16:Nat))=JD zs p:=by
 have hk:=h.kp 3 (p-p%(1*16));rw[show ((3:Nat):Int)=3 from rfl] at hk;have hw:DG zs (p-p%(1*16))=DG zs p:=by unfold DG;rw[show (p-p%(1*16))/256=p/256 by omega]
 have hw2:DW zs (p-p%(1*16))=DW zs p:=by unfold DW;rw[hw,show (p-p%(1*16))/16%16=p/16%16 by omega]
 split at hk
 ·rw[hk] at hf ⊢;have o:=h.o3 (p-p%(1*16)) (by omega) (by omega);obtain⟨hl,hl2⟩:=o.2 hf;have e:=o.1 hl hl2;rw[hw] at hl;rw[hw2] at hl2 e;refine⟨hl,hl2,?_⟩;rw[e] at hf ⊢;unfold Fl JD;exact Eu zs _ (p%16) _ hf (by omega)
 ·omega
def Fv (zs:List Int) (H:Nat->Ht) (p lv:Nat):Nat:=(Dy (AF H (A7 zs)) p lv).countP (GW zs H (AW H (A7 zs)))+(Dy (AF H (A7 zs)) p lv).countP (MT zs H (AW H (A7 zs)))
theorem NL(zs:List Int)(H:Nat->Ht)(p lv:Nat):Fv zs H p lv=if p%Ay lv=0/\0<=AI (AF H (A7 zs)) lv (p-p%(Ay lv*16):Nat) then Q0 zs H ⟨lv,p,AI (AF H (A7 zs)) lv (p-p%(Ay lv*16):Nat)*16+(p/Ay lv%16:Nat)⟩ else 0:=by
 unfold Fv Dy;split
 ·unfold Q0 bn;simp[List.countP_cons]
 ·rfl
theorem Ap.page{zs:List Int}{n:Nat}{H:Nat->Ht}(h:Ap zs n H){p:Nat}(hp:p<4096):Fv zs H p 1+(Fv zs H p 2+Fv zs H p 3)<=2*bn (Xo zs H p)+(tB zs H 2 p+tB zs H 3 p):=by
 have h1:Fv zs H p 1<=tB zs H 2 p:=by
  rw[NL];split
  ·rename_i hc;have hm:p%256=0:=hc.1;exact(h.cost1 hp hm (h.wd1 hp hm)).1
  ·exact Nat.zero_le _
 have h3:Fv zs H p 3<=2*bn (Xo zs H p)/\(p%16=0->AI (AF H (A7 zs)) 3 p<0->Fv zs H p 3=0):=by
  rw[NL];refine⟨?_,fun hm hf=>?_⟩
  ·split
   ·rename_i hc;obtain⟨hl,hl2,hw⟩:=h.wd3 hp hc.2;by_cases hs:BG zs p=MF (H p)
    ·have e:=(h.cost3 hp hl hl2 hw hs).1;rw[show ((3:Nat):Int)=3 from rfl,show Ay 3=1 from rfl,e];exact Nat.zero_le _
    ·have:=NE hs;have:=RC zs H ⟨(3:Nat),p,AI (AF H (A7 zs)) (3:Nat) (p-p%(Ay 3*16):Nat)*16+(p/Ay 3%16:Nat)⟩;omega
   ·exact Nat.zero_le _
  ·rw[if_neg];rintro⟨_,h0⟩;(have e:p-p%(Ay 3*16)=p:=by show p-p%(1*16)=p;omega);rw[e,show ((3:Nat):Int)=3 from rfl] at h0;omega
 have h2:Fv zs H p 2=0\/(p%16=0/\AI (AF H (A7 zs)) 3 p<0/\Fv zs H p 2<=2*bn (Xo zs H p)+tB zs H 3 p):=by
  rw[NL];split
  ·rename_i hc;have hm:p%16=0:=hc.1;obtain⟨hl,hw⟩:=h.wd2 hp hc.2;rcases h.cost2 hp hm hl hw with e|⟨e1,e2⟩
   ·exact .inl e
   ·exact .inr ⟨hm,e1,e2⟩
  ·exact .inl rfl
 rcases h2 with e|⟨a,b,c⟩
 ·have:=h3.1;omega
 ·have:=h3.2 a b;omega
def sm (f:Nat->Nat):Nat->Nat
 | 0=>0
 | k+1=>sm f k+f k
theorem Y3{f g:Nat->Nat}:∀k,(∀p,p<k->f p<=g p)->sm f k<=sm g k
 | 0,_=>Nat.le_refl _
 | k+1,h=>by
  have h1:=Y3 k (fun p hp=>h p (by omega));have h2:=h k (by omega);show sm f k+f k<=sm g k+g k;omega
theorem SE:∀k,sm (fun _=>0) k=0
 | 0=>rfl
 | k+1=>by show sm (fun _=>0) k+0=0;rw[SE k]
theorem PO(zs:List Int)(H:Nat->Ht):∀k,(Bf (AF H (A7 zs)) k).countP (GW zs H (AW H (A7 zs)))+(Bf (AF H (A7 zs)) k).countP (MT zs H (AW H (A7 zs)))=sm (fun p=>Fv zs H p 1+(Fv zs H p 2+Fv zs H p 3)) k
 | 0=>by simp[Bf,sm]
 | k+1=>by
  have ih:=PO zs H k;rw[Hi,List.countP_append,List.countP_append];unfold Lm;rw[List.countP_append,List.countP_append,List.countP_append,List.countP_append];show _=sm _ k+(Fv zs H k 1+(Fv zs H k 2+Fv zs H k 3));rw[<- ih];unfold Fv;omega
def Vg (x:Int):Prop:=0<=x/\x<2 ^ 64
theorem YR(l k o p:Int):Vg (Aw l k o p):=by
 unfold Aw Vg;split
 ·rename_i h;unfold Cs;split<;>omega
 ·omega
theorem YG(H:Nat->Ht)(all:List P3)(lv pg:Int):Vg (C3 H all lv pg):=by
 unfold C3;repeat' split
 all_goals first|exact YR _ _ _ _|exact⟨by omega,by omega⟩
def Gq (l:List BP):Prop:=∀o∈l,o.kind=1->Vg o.word
theorem Gq.app{l m:List BP}(h1:Gq l)(h2:Gq m):Gq (l++m):=fun o ho=>(List.mem_append.1 ho).elim (h1 o) (h2 o)
theorem Gq.seal{l:List BP}(h:Gq l):Gq (BU l):=by
 unfold BU;split
 ·intro o ho;cases ho
 ·refine h.app (fun o ho hk=>?_);rw[List.mem_singleton] at ho;subst ho;cases hk
theorem NV(zs:List Int)(n:Nat)(H:Nat->Ht)(ps:List P3):Gq (Ao zs n H ps):=by
 unfold Ao;refine Gq.app (Gq.seal (fun o ho hk=>?_)) (Gq.app (Gq.seal (fun o ho hk=>?_)) (Gq.app (fun o ho hk=>?_) (Gq.app (Gq.seal (fun o ho hk=>?_)) (Gq.seal (fun o ho hk=>?_)))))
 ·unfold Ac at ho;obtain⟨e,he,rfl⟩:=List.mem_map.1 ho;exact(show Vg 0 from ⟨by decide,by decide⟩)
 ·unfold B8 at ho;obtain⟨e,he,rfl⟩:=List.mem_map.1 ho;cases hk
 ·unfold As at ho;obtain⟨e,he,rfl⟩:=List.mem_map.1 ho;cases hk
 ·unfold AU at ho;obtain⟨t,ht,ho⟩:=List.mem_flatMap.1 ho;unfold B6 at ho;obtain⟨i,hi,rfl⟩:=List.mem_map.1 ho;exact YG _ _ _ _
 ·unfold Ai at ho;obtain⟨e,he,rfl⟩:=List.mem_map.1 ho;exact YG _ _ _ _
theorem VY:∀(l:List BP) (zs:List Int),Gq l->(∀i,Vg (zs.getD i 0))->∀i,Vg ((D8 zs l).getD i 0)
 | [],zs,_,hz=>hz
 | o :: l,zs,hl,hz=>by
  show ∀i,Vg ((D8 (Of zs o) l).getD i 0)
  refine VY l (Of zs o) (fun o' ho'=>hl o' (List.mem_cons_of_mem _ ho')) (fun i=>?_);unfold Of;split
  ·rename_i hk;have:=hl o List.mem_cons_self hk;rw[List.getD_eq_getElem?_getD,List.getElem?_set];split
   ·split
    ·exact this
    ·exact⟨by decide,by decide⟩
   ·have:=hz i;rw[List.getD_eq_getElem?_getD] at this;exact this
  ·exact hz i
theorem Lq{zs:List Int}{xs:List AE}(h:(Bk zs xs).2=0):Be zs=true/\FP xs=true/\¬An zs.length<((AJ (lay xs) 256).length:Nat):=by
 by_cases h1:Be zs=true
 ·by_cases h2:FP xs=true
  ·by_cases h3:An zs.length<((AJ (lay xs) 256).length:Nat)
   ·rw[Ij h1 h2 h3] at h;cases h
   ·exact⟨h1,h2,h3⟩
  ·rw[J7 h1 (by simpa using h2)] at h;cases h
 ·rw[Is (by simpa using h1)] at h;cases h
theorem RY(xs:List AE)(fr:Int)(h:(EW xs fr).2=0):0<(EW xs fr).1.length/\∀i,0<=(EW xs fr).1.getD i 0/\(EW xs fr).1.getD i 0<2 ^ 64:=by
 unfold EW at h ⊢;split at h
 ·cases h
 ·rename_i hv;rw[if_neg hv];split at h
  ·cases h
  ·rename_i hf;rw[if_neg hf];split at h
   ·cases h
   ·rename_i hp;rw[if_neg hp];(have hp0:(Bk (Bs fr.toNat) xs).2=0:=by simpa using hp);obtain⟨p1,p2,p3⟩:=Lq hp0;rw[FY p1 p2 p3];refine⟨?_,?_⟩
    ·show 0<(D8 _ _).length;rw[DB,Fx];omega
    ·exact VY _ _ (NV _ _ _ _) (fun i=>by rw[Gp];exact⟨by decide,by decide⟩)
def YI (xs:List AE) (p:Nat):Di:=⟨(Me xs (p:Nat)).k,(Me xs (p:Nat)).o,(Me xs (p:Nat)).p,(Me xs (p:Nat)).s⟩
section
attribute [local go_sem ↓] wp_at_zero wp_at_succ
theorem Jz(A B C D A' B' C' D':Int)(w:World):Calls prog 18 #[.agg #[.int .i64 A,.int .i64 B,.int .i64 C,.int .i64 D],.agg #[.int .i64 A',.int .i64 B',.int .i64 C',.int .i64 D']] w (AM w (.bool (J5 ⟨A,B,C,D⟩ ⟨A',B',C',D'⟩))):=by
 have hb:Bl w ((w.alloc (.cells #[.int .i64 A,.int .i64 B,.int .i64 C,.int .i64 D] 56)).alloc (.cells #[.int .i64 A',.int .i64 B',.int .i64 C',.int .i64 D'] 56)):=AO.alloc (by simp) _;unfold J5;dsimp only;by_cases h1:A=A'
 ·by_cases h2:B=B'
  ·by_cases h3:C=C'
   ·by_cases h4:D=D'
    ·subst h1 h2 h3 h4;(go_enter func18,ntmps18);(go_wp2);go_ret;exact⟨by simp,hb⟩
    ·(have e4:(D==D')=false:=by simpa using h4);subst h1 h2 h3;(go_enter func18,ntmps18);(go_wp2);go_ret;exact⟨by simp[h4],hb⟩
   ·(have e3:(C==C')=false:=by simpa using h3);subst h1 h2;(go_enter func18,ntmps18);(go_wp2);go_ret;exact⟨by simp[h3],hb⟩
  ·(have e2:(B==B')=false:=by simpa using h2);subst h1;(go_enter func18,ntmps18);(go_wp2);go_ret;exact⟨by simp[h2],hb⟩
 ·have e1:(A==A')=false:=by simpa using h1
  go_enter func18,ntmps18
  go_wp2
  go_ret;exact⟨by simp[h1],hb⟩
end
end Go.Proofs.YtnmhkgmmpkjjeaaGreat
