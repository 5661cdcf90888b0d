import Derived.Deep.Slices
import Derived.ChangeOld
import Derived.Test.YtnmhkgmmpkjjeaaGreatM03
import Derived.Laws.BitsLemmas
namespace Go.Proofs.YtnmhkgmmpkjjeaaGreat
open ChangeShapes WideShapes ChangeAt RowKit Proofs.Tryz
set_option linter.all false
set_option maxRecDepth 100000
theorem A9{p:Prop}(h:p):Hid p:=h
section
attribute [local go_sem ↓] wp_at_zero wp_at_succ
structure AE where
 page:Int
 count:Int
 out:Int
 perm:Int
 huge:Bool
def AA:Dw AE:=⟨103,5,fun x=>[.int .i64 x.page,.int .i64 x.count,.int .i64 x.out,.int .i64 x.perm,.bool x.huge],⟨0,0,0,0,false⟩,by omega,fun _=>rfl⟩
theorem Pf:(prog.info? 103).map (fun i=>(i.zero,i.size,i.bytes))=some (some (.agg #[.int .i64 0,.int .i64 0,.int .i64 0,.int .i64 0,.bool false]),5,40):=by kernel_rfl
end
structure BP where
 kind:Int
 a:Int
 b:Int
 word:Int
def BW:Dw BP:=⟨77,4,fun x=>[.int .i64 x.kind,.int .i64 x.a,.int .i64 x.b,.int .u64 x.word],⟨0,0,0,0⟩,by omega,fun _=>rfl⟩
theorem Ns:(prog.info? 77).map (fun i=>(i.zero,i.size,i.bytes))=some (some (.agg #[.int .i64 0,.int .i64 0,.int .i64 0,.int .u64 0]),4,32):=by kernel_rfl
section
attribute [local go_sem ↓] wp_at_zero wp_at_succ
def AY:Dw Int:=⟨75,1,fun x=>[.int .u64 x],0,by omega,fun _=>rfl⟩
theorem Ck.erow{w:World}{g base:Nat}{zs:List Int}(h:Ck w g zs)(hb:base<=g)(hn:zs.length<=1048576):A8 AY w base (.slice (some ⟨g,0,none⟩) zs.length zs.length) zs:=by
 refine A8.of_row (cap:=zs.length) rfl hb h (by simp[AY]) (Nat.le_refl _) (by unfold maxLen;omega) ?_;intro i hi j hj;have:j=0:=by simp[AY] at hj;omega
 subst this;simp[CM,AY,AQ]
theorem IF{w:World}{base:Nat}{v:Value}{zs:List Int}(h:A8 AY w base v zs):∃a cap,v=.slice a zs.length cap/\(0<zs.length->∃g N f,a=some ⟨g,0,none⟩/\base<=g/\w.rowIs g 75 N f/\zs.length<=N/\∀i,i<zs.length->f i=.int .u64 (zs.getD i 0)):=by
 obtain⟨a,c,e,ha⟩:=h.form;refine⟨a,c,e,fun h0=>?_⟩;obtain⟨g,N,f,p,q,r,s,t⟩:=ha h0;refine⟨g,N,f,p,q,r,by simpa [AY] using s,fun i hi=>?_⟩;have:=t i hi 0 (by decide);simpa [CM,AY,AQ] using this
structure BS where
 addr:Int
 word:Int
def Cz:Dw BS:=⟨188,2,fun x=>[.int .i64 x.addr,.int .u64 x.word],⟨0,0⟩,by omega,fun _=>rfl⟩
theorem Mw:(prog.info? 188).map (fun i=>(i.zero,i.size,i.bytes))=some (some (.agg #[.int .i64 0,.int .u64 0]),2,16):=by kernel_rfl
structure Sb where
 page:Int
 size:Int
 out:Int
 perm:Int
 doom:Bool
def aG:Dw Sb:=⟨60,5,fun x=>[.int .i64 x.page,.int .i64 x.size,.int .i64 x.out,.int .i64 x.perm,.bool x.doom],⟨0,0,0,0,false⟩,by omega,fun _=>rfl⟩
structure Z8 where
 level:Int
 page:Int
 table:Int
 doom:Bool
def aH:Dw Z8:=⟨65,4,fun x=>[.int .i64 x.level,.int .i64 x.page,.int .i64 x.table,.bool x.doom],⟨0,0,0,false⟩,by omega,fun _=>rfl⟩
structure GP where
 mem:List Int
 pend:List BS
 tlb:List Sb
 wc:List Z8
structure ZW (S:Nat->Prop) (w w':World):Prop where
 os:w'.os=w.os
 tape:w'.tape=w.tape
 output:w'.output=w.output
 size:w.heap.size<=w'.heap.size
 block:∀k,k<w.heap.size->¬S k->w'.heap[k]?=w.heap[k]?
theorem A8.touch{α:Type}{E:Dw α}{w w':World}{base:Nat}{v:Value}{xs:List α}{S:Nat->Prop}(h:A8 E w base v xs)(hg:ZW S w w')(hne:∀k,v.ownBlock=some k->¬S k):A8 E w' base v xs:=by
 refine⟨h.1,?_⟩;rcases h.2 with hh|⟨g,cap,cur,e,hb,hgg,r⟩
 ·exact .inl hh
 ·refine .inr ⟨g,cap,cur,e,hb,?_,r⟩;rw[hg.block g (Array.getElem?_eq_some_iff.1 hgg).1 (hne g (by rw[e];rfl))];exact hgg
end
def DX (p:Int):Bool:=decide (0<=p)&&decide (p<4096)
def Ip (c:Int) (b:Nat):Bool:=decide (c/2 ^ b%2=1)
def JM (page level:Int):Int:=if level=1 then page/256 else if level=2 then page/16%16 else page%16
theorem Qt(p:Int)(w:World):Calls prog 58 #[.int .i64 p] w fun e w'=>e=.returned (.bool (DX p))/\w'=w:=by
 unfold DX;by_cases h:0<=p
 ·have h':decide (0<=p)=true:=by simpa using h
  rw[h'];by_cases k:p<4096
  ·(have k':decide (p<4096)=true:=by simpa using k);rw[k'];(go_enter func58,ntmps58);(go_wp2);go_ret;exact⟨rfl,rfl⟩
  ·(have k':decide (p<4096)=false:=by simpa using k);rw[k'];(go_enter func58,ntmps58);(go_wp2);go_ret;exact⟨rfl,rfl⟩
 ·have h':decide (0<=p)=false:=by simpa using h
  rw[h'];go_enter func58,ntmps58
  go_wp2
  go_ret;exact⟨rfl,rfl⟩
theorem Sj(p l:Int)(hp0:0<=p)(hp1:p<4096)(w:World):Calls prog 131 #[.int .i64 p,.int .i64 l] w fun e w'=>e=.returned (.int .i64 (JM p l))/\w'=w:=by
 by_cases h1:l=1
 ·subst h1;go_enter func131,ntmps131
  go_wp2
  go_ret;exact⟨rfl,rfl⟩
 ·by_cases h2:l=2
  ·subst h2;(go_enter func131,ntmps131);(go_wp2);go_ret;exact⟨rfl,rfl⟩
  ·(have e:JM p l=p%16:=by simp[JM,h1,h2]);rw[e];(have h1':(l==1)=false:=by simpa using h1);(have h2':(l==2)=false:=by simpa using h2);clear e h1 h2;(go_enter func131,ntmps131);(go_wp2);go_ret;exact⟨rfl,rfl⟩
theorem VJ(p l:Int)(hp0:0<=p)(hp1:p<4096):0<=JM p l/\JM p l<16:=by
 unfold JM;by_cases a:l=1<;>by_cases b:l=2<;>simp[a,b]<;>omega
def ZN (a b:Sb):Bool:=decide (a.page=b.page)&&decide (a.size=b.size)&&decide (a.out=b.out)&&decide (a.perm=b.perm)
def ZR (e:Z8) (p:Int):Bool:=decide (p-p%BX (e.level-1)=e.page)
section
attribute [local go_sem ↓] wp_at_zero wp_at_succ

end
def VR (M:GP) (a:Int):Nat->Int
 | 0=>M.mem.getD a.toNat 0
 | k+1=>if (AQ Cz M.pend k).addr=a then (AQ Cz M.pend k).word else VR M a k
def Y5 (M:GP) (a:Int) (late:Bool):Int:=if late then VR M a M.pend.length else M.mem.getD a.toNat 0
structure Di where
 kind:Int
 out:Int
 perm:Int
 size:Int
def Fy (h:Di):Value:=.agg #[.int .i64 h.kind,.int .i64 h.out,.int .i64 h.perm,.int .i64 h.size]
def Q6 (f:Nat->Bool) (n:Nat):Bool:=(List.range n).any f
theorem Sr(f:Nat->Bool)(i n:Nat)(hi:i<n)(h:f i=true):Q6 f n=true:=by
 unfold Q6;rw[List.any_eq_true];exact⟨i,by simpa using hi,h⟩
def aE (a b:Z8):Bool:=decide (a.level=b.level)&&decide (a.page=b.page)&&decide (a.table=b.table)&&(a.doom==b.doom)
def Zi (a b:Sb):Bool:=ZN a b&&(a.doom==b.doom)
def Zv (M:GP) (e:Z8):Bool:=Q6 (fun i=>aE (AQ aH M.wc i) e) M.wc.length
def YN (M:GP) (e:Sb):Bool:=Q6 (fun i=>Zi (AQ aG M.tlb i) e) M.tlb.length
def Z2 (M:GP) (e:Z8):GP:=if Zv M e||decide (256<=M.wc.length) then M else ⟨M.mem,M.pend,M.tlb,M.wc++[e]⟩
def X9 (M:GP) (e:Sb):GP:=if YN M e||decide (256<=M.tlb.length) then M else ⟨M.mem,M.pend,M.tlb++[e],M.wc⟩
def C5 (M:GP) (page choice level frame:Int):Int:=Y5 M (frame*16+JM page level) (Ip choice level.toNat)
def Hz (level x:Int):Int:=if AG level x=2 then 16 else 1
def VW (page choice:Int) (M:GP) (level x:Int) (doom:Bool):GP×Di :=
 if AG level x=0 then (M,⟨0,0,0,0⟩)
 else if AG level x=2\/AG level x=3 then
  (if Ip choice 6 then X9 M ⟨page-page%Hz level x,Hz level x,AX level x,Ak level x,doom⟩ else M,⟨1,AX level x+page%Hz level x,Ak level x,Hz level x⟩)
 else (M,⟨3,0,0,0⟩)
def UA (M:GP) (level x:Int):Bool:=decide (AG level x=1)&&decide (AX level x<An M.mem.length)
def UK (page choice:Int) (M:GP) (level x:Int) (doom:Bool):GP :=
 if Ip choice (level+3).toNat then Z2 M ⟨level+1,page-page%BX level,AX level x,doom⟩ else M
def WO (page choice:Int):Nat->GP->Int->Int->Bool->GP×Di
 | 0,M,level,frame,doom=>VW page choice M level (C5 M page choice level frame) doom
 | d+1,M,level,frame,doom =>
  if UA M level (C5 M page choice level frame) then
   WO page choice d (UK page choice M level (C5 M page choice level frame) doom) (level+1) (AX level (C5 M page choice level frame)) doom
  else VW page choice M level (C5 M page choice level frame) doom
def aJ (M:GP) (page level:Int) (i:Nat):Bool:=decide ((AQ aH M.wc i).level=level)&&ZR (AQ aH M.wc i) page
section
attribute [local go_sem ↓] wp_at_zero wp_at_succ
theorem Wh(a k:Nat)(ha:a<65536)(hk:k<16):bits .and .i64 (a:Int) ((2 ^ k:Nat):Int)=((a/2 ^ k%2*2 ^ k:Nat):Int):=by
 have hb:2 ^ k<2 ^ 16:=Nat.pow_lt_pow_right (by omega) hk;have h1:(BitVec.ofInt 64 (a:Int)).toNat=a:=by
  rw[BitVec.ofInt_natCast,BitVec.toNat_ofNat];exact Nat.mod_eq_of_lt (by omega)
 have h2:(BitVec.ofInt 64 ((2 ^ k:Nat):Int)).toNat=2 ^ k:=by
  rw[BitVec.ofInt_natCast,BitVec.toNat_ofNat];exact Nat.mod_eq_of_lt (by omega)
 show IntKind.i64.wrap ((BitVec.ofInt 64 (a:Int) &&& BitVec.ofInt 64 ((2 ^ k:Nat):Int)).toNat:Int)=_;have h3:=Ew a k 1;rw[show (2 ^ 1-1)*2 ^ k=2 ^ k by omega,show (2:Nat) ^ 1=2 from rfl] at h3;rw[BitVec.toNat_and,h1,h2,h3,IntKind.wrap_i64];rcases Nat.mod_two_eq_zero_or_one (a/2 ^ k) with h|h<;>rw[h]<;>omega
theorem GA(c:Int)(k:Nat)(B:Int)(hB:B=((2 ^ k:Nat):Int))(hk:k<16)(hc0:0<=c)(hc1:c<=65535)(w:World):Calls prog 198 #[.int .i64 c,.int .i64 B] w fun e w'=>e=.returned (.bool (Ip c k))/\w'=w:=by
 obtain⟨a,rfl⟩:=Int.eq_ofNat_of_zero_le hc0;have h:=Wh a k (by omega) hk;rw[<- hB] at h;have hpos:0<2 ^ k:=Nat.pow_pos (by omega);have e:((a:Int)/2 ^ k%2=1)↔a/2 ^ k%2=1:=by
  rw[show (2:Int) ^ k=((2 ^ k:Nat):Int) by simp];omega
 by_cases hb:a/2 ^ k%2=1
 ·have hv:Ip a k=true:=by simpa [Ip] using e.2 hb
  have hx:(bits .and .i64 (a:Int) B != 0)=true:=by
   (rw[h,hb,Nat.one_mul,bne_iff_ne];intro h0;have:2 ^ k=0:=by exact_mod_cast h0);omega
  rw[hv];clear h e hb hv hB;go_enter func198,ntmps198
  go_wp2
  go_ret;exact⟨rfl,rfl⟩
 ·have hv:Ip a k=false:=by
   unfold Ip;rw[decide_eq_false_iff_not];exact fun h'=>hb (e.1 h')
  have hx:(bits .and .i64 (a:Int) B != 0)=false:=by
   rw[h,show a/2 ^ k%2=0 by omega];simp
  rw[hv];clear h e hb hv hB;go_enter func198,ntmps198
  go_wp2
  go_ret;exact⟨rfl,rfl⟩
theorem Nf(c l:Int)(hl:l=1\/l=2\/l=3)(hc0:0<=c)(hc1:c<=65535)(w:World):Calls prog 154 #[.int .i64 c,.int .i64 l] w fun e w'=>e=.returned (.bool (Ip c l.toNat))/\w'=w:=by
 rcases hl with rfl|rfl|rfl
 ·have h:=GA c 1 2 rfl (by omega) hc0 hc1;go_enter func154,ntmps154
  go_wp2_with (go_at_call 198;refine(h _).mono ?_;rintro e w1 ⟨rfl,rfl⟩)
  go_ret;exact⟨rfl,rfl⟩
 ·have h:=GA c 2 4 rfl (by omega) hc0 hc1;go_enter func154,ntmps154
  go_wp2_with (go_at_call 198;refine(h _).mono ?_;rintro e w1 ⟨rfl,rfl⟩)
  go_ret;exact⟨rfl,rfl⟩
 ·have h:=GA c 3 8 rfl (by omega) hc0 hc1;go_enter func154,ntmps154
  go_wp2_with (go_at_call 198;refine(h _).mono ?_;rintro e w1 ⟨rfl,rfl⟩)
  go_ret;exact⟨rfl,rfl⟩
theorem Kf(c l:Int)(hl:l=2\/l=3)(hc0:0<=c)(hc1:c<=65535)(w:World):Calls prog 158 #[.int .i64 c,.int .i64 l] w fun e w'=>e=.returned (.bool (Ip c (l+2).toNat))/\w'=w:=by
 rcases hl with rfl|rfl
 ·have h:=GA c 4 16 rfl (by omega) hc0 hc1;go_enter func158,ntmps158
  go_wp2_with (go_at_call 198;refine(h _).mono ?_;rintro e w1 ⟨rfl,rfl⟩)
  go_ret;exact⟨rfl,rfl⟩
 ·have h:=GA c 5 32 rfl (by omega) hc0 hc1;go_enter func158,ntmps158
  go_wp2_with (go_at_call 198;refine(h _).mono ?_;rintro e w1 ⟨rfl,rfl⟩)
  go_ret;exact⟨rfl,rfl⟩
theorem I6(p:Int)(w:World):Calls prog 90 #[.int .i64 p] w fun e w'=>e=.returned (.bool (DX p))/\w'=w:=by
 unfold DX;by_cases h1:0<=p
 ·have h1':decide (0<=p)=true:=by simpa using h1
  by_cases h2:p<4096
  ·(have h2':decide (p<4096)=true:=by simpa using h2);rw[h1',h2'];clear h1 h2;(go_enter func90,ntmps90);(go_wp2);go_ret;exact⟨rfl,rfl⟩
  ·(have h2':decide (p<4096)=false:=by simpa using h2);rw[h1',h2'];clear h1 h2;(go_enter func90,ntmps90);(go_wp2);go_ret;exact⟨rfl,rfl⟩
 ·have h1':decide (0<=p)=false:=by simpa using h1
  rw[h1'];clear h1;go_enter func90,ntmps90
  go_wp2
  go_ret;exact⟨by simp,rfl⟩
end
theorem Ly{w:World}{b c:Nat}{a:Option Addr}{zs:List Int}(h:A8 AY w b (.slice a zs.length c) zs)(h0:0<zs.length):∃g,a=some ⟨g,0,none⟩/\b<=g/\zs.length<=c/\BQ w g zs:=by
 have h':=h;rcases h.2 with⟨e,h0'⟩|⟨g,cap,cur,e,hb,hg,hn,hm,hs,ht⟩
 ·omega
 ·simp only[Value.slice.injEq] at e;obtain⟨rfl,_,rfl⟩:=e;obtain⟨a',c',e,ha⟩:=IF h';obtain⟨g',N,f,e1,_,hr,hN,hf⟩:=ha h0;simp only[Value.slice.injEq] at e;rw[<- e.1] at e1;cases e1;refine⟨g,rfl,hb,hn,hr.lt,fun i hi=>?_⟩;have:=hr.cell (i:=i) (by omega);rwa [hf i hi] at this
end Go.Proofs.YtnmhkgmmpkjjeaaGreat
