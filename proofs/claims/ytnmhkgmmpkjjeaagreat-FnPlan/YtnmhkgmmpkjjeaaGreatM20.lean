import Derived.Test.YtnmhkgmmpkjjeaaGreatM18
import Derived.Test.YtnmhkgmmpkjjeaaGreatM19
namespace Go.Proofs.YtnmhkgmmpkjjeaaGreat
open ChangeShapes WideShapes ChangeAt RowKit Proofs.Tryz
set_option linter.all false
set_option maxRecDepth 100000
set_option maxHeartbeats 4000000
attribute [local go_sem ↓] wp_at_zero wp_at_succ
structure Io (w:World) (gp gz cz gl B:Nat) (zs:List Int) (H:Nat->Ht) (m:List HE):Prop where
 lt:gp<w.heap.size
 c0:w.cell? ⟨gp,0,none⟩=some (.slice (some ⟨gz,0,none⟩) zs.length cz)
 c1:w.cell? ⟨gp,1,none⟩=some (.pointer (some ⟨gl,0,none⟩))
 c2:w.cell? ⟨gp,2,none⟩=some (.map (some B))
 words:BQ w gz zs
 lay:CZ w gl H
 map:Cw w B m
theorem Io.below{w w':World}{gp gz cz gl B:Nat}{zs:List Int}{H:Nat->Ht}{m:List HE}(h:Io w gp gz cz gl B zs H m)(hb:Bl w w'):Io w' gp gz cz gl B zs H m :=
 ⟨Nat.lt_of_lt_of_le h.lt hb.size,(hb.cell (p:=⟨gp,0,none⟩) h.lt).trans h.c0,(hb.cell (p:=⟨gp,1,none⟩) h.lt).trans h.c1,(hb.cell (p:=⟨gp,2,none⟩) h.lt).trans h.c2,h.words.below hb h.words.lt,h.lay.below hb,h.map.below hb⟩
def BZ (kept fs:List P3):List HE:=kept.map (fun q=>⟨q.lv,q.pg,q.fr,true⟩)++fs.map (fun q=>⟨q.lv,q.pg,q.fr,false⟩)
theorem KG(qs:List P3)(b:Bool)(lv pg:Int):(qs.map (fun q=>(⟨q.lv,q.pg,q.fr,b⟩:HE))).find? (Sf lv pg)=(qs.find? (B5 lv pg)).map (fun q=>(⟨q.lv,q.pg,q.fr,b⟩:HE)):=by
 induction qs with
 | nil=>rfl
 | cons q r ih =>
  rw[List.map_cons];by_cases h:q.lv=lv/\q.pg=pg
  ·rw[List.find?_cons_of_pos (by unfold Sf;exact decide_eq_true ⟨h.1.symm,h.2.symm⟩),List.find?_cons_of_pos (by unfold B5;exact decide_eq_true h)];rfl
  ·rw[List.find?_cons_of_neg (by unfold Sf;rw[decide_eq_false (fun hh=>h ⟨hh.1.symm,hh.2.symm⟩)];decide),List.find?_cons_of_neg (by unfold B5;rw[decide_eq_false h];decide),ih]
theorem Ic(kept fs:List P3)(lv pg:Int):FX (BZ kept fs) lv pg=match kept.find? (B5 lv pg) with
  | some q=>some ⟨q.lv,q.pg,q.fr,true⟩
  | none=>(fs.find? (B5 lv pg)).map (fun q=>⟨q.lv,q.pg,q.fr,false⟩):=by
 unfold FX BZ
 rw[List.find?_append,KG,KG]
 cases kept.find? (B5 lv pg)<;>rfl
theorem Og{kept fs:List P3}{lv pg:Int}(h0:∀q∈kept++fs,0<=q.fr)(h:AI (kept++fs) lv pg<0):FX (BZ kept fs) lv pg=none:=by
 rw[Ic];have hn:∀q∈kept++fs,B5 lv pg q=false:=by
  intro q hq;cases hs:B5 lv pg q
  ·rfl
  ·exfalso;have hf:∃r,(kept++fs).find? (B5 lv pg)=some r:=by
    have:=List.find?_isSome.2 ⟨q,hq,hs⟩;exact Option.isSome_iff_exists.1 this
   obtain⟨r,hr⟩:=hf;have hrm:=List.mem_of_find?_eq_some hr;have:=h0 r hrm;unfold AI at h;rw[hr] at h;dsimp only at h;omega
 rw[List.find?_eq_none.2 (fun q hq=>by rw[hn q (List.mem_append_left _ hq)];decide),List.find?_eq_none.2 (fun q hq=>by rw[hn q (List.mem_append_right _ hq)];decide)];rfl
theorem Rj{kept fs:List P3}{lv pg:Int}(h:0<=AI (kept++fs) lv pg):∃k,FX (BZ kept fs) lv pg=some ⟨lv,pg,AI (kept++fs) lv pg,k⟩:=by
 rw[Ic];unfold AI at h ⊢;rw[List.find?_append] at h ⊢;cases hk:kept.find? (B5 lv pg) with
 | some q =>
  have hs:B5 lv pg q=true:=List.find?_some hk;unfold B5 at hs;have:=of_decide_eq_true hs;refine⟨true,?_⟩;show some (⟨q.lv,q.pg,q.fr,true⟩:HE)=_;rw[this.1,this.2];rfl
 | none =>
  rw[hk] at h;cases hf:fs.find? (B5 lv pg) with
  | some q =>
   have hs:B5 lv pg q=true:=List.find?_some hf;unfold B5 at hs;have:=of_decide_eq_true hs;refine⟨false,?_⟩;show some (⟨q.lv,q.pg,q.fr,false⟩:HE)=_;rw[this.1,this.2];rfl
  | none=>rw[hf] at h;simp at h
theorem SD{kept fs:List P3}{lv pg:Int}(h:0<=AI kept lv pg):FX (BZ kept fs) lv pg=some ⟨lv,pg,AI kept lv pg,true⟩:=by
 rw[Ic];unfold AI at h ⊢;cases hk:kept.find? (B5 lv pg) with
 | some q =>
  have hs:B5 lv pg q=true:=List.find?_some hk;unfold B5 at hs;have:=of_decide_eq_true hs;show some (⟨q.lv,q.pg,q.fr,true⟩:HE)=_;rw[this.1,this.2]
 | none=>rw[hk] at h;simp at h
theorem Yh{kept fs:List P3}{lv pg:Int}(h0:∀q∈kept,0<=q.fr)(h:AI kept lv pg<0):∀x,FX (BZ kept fs) lv pg=some x->x.kp=false:=by
 intro x hx;rw[Ic] at hx;unfold AI at h;cases hk:kept.find? (B5 lv pg) with
 | some q =>
  rw[hk] at h;have:=h0 q (List.mem_of_find?_eq_some hk);dsimp only at h;omega
 | none =>
  rw[hk] at hx;cases hf:fs.find? (B5 lv pg) with
  | some q=>rw[hf] at hx;simp at hx;rw[<- hx]
  | none=>rw[hf] at hx;simp at hx
theorem Ut(gp gz cz gl B:Nat)(zs:List Int)(H:Nat->Ht)(kept fs:List P3)(p:Nat)(w:World)(hp:p<4096)(h0:∀q∈kept++fs,0<=q.fr)(h16:(H p).s=16->AI (kept++fs) 3 p<0)(h4:AI (kept++fs) 4 p<0)(h:Io w gp gz cz gl B zs H (BZ kept fs)):Calls prog 227 #[.pointer (some ⟨gp,0,none⟩),.int .i64 1,.int .i64 p] w (AM w (.int .u64 (C3 H (kept++fs) 1 p))):=by
 have k2:=h.c2;have k1:=h.c1;obtain⟨y0,y1,y2,y3⟩:=h.lay.cells p hp;have ygl:=h.lay.lt;have hlt:=h.lt;have hlk:=Gk B (BZ kept fs) 2 p true w h.map;obtain⟨E,hE⟩:∃E,H p=E:=⟨_,rfl⟩
 rw[hE] at y0 y1 y2 y3 h16;obtain⟨A,Bq,C,D⟩:=E;dsimp only at y0 y1 y2 y3 h16;have hT:((p:Nat):Int).toNat=p:=rfl;have L1:(0:Int)<=(p:Int):=by omega
 have L2:(p:Int)<4096:=by omega
 by_cases hf:0<=AI (kept++fs) 2 p
 ·obtain⟨k,hg⟩:=Rj hf;have HV:Hid (C3 H (kept++fs) 1 p=Aw 1 1 (AI (kept++fs) 2 p) 0):=A9 <| by
   unfold C3;rw[if_neg (by decide),if_neg (fun hh=>absurd hh.1 (by decide))];rw[if_neg (by show ¬AI (kept++fs) 2 p<0;omega)];rfl
  unfold Ft at hlk;rw[hg] at hlk;simp only[if_true,Option.isSome_some] at hlk;have he:=Dp 1 1 (AI (kept++fs) 2 p) 0;generalize Aw 1 1 (AI (kept++fs) 2 p) 0=X at HV he;generalize AI (kept++fs) 2 p=F at hlk he hf;clear h h0 h16 h4 hE hg hT;go_enter func227,ntmps227
  go_wp2_with (go_at_call 240;refine(he _).mono ?_;rintro e w1 ⟨rfl,hb1⟩)
  go_ret;exact⟨by rw[HV.out];rfl,AO.trans (hb1.mono (by first|(simp;done)|(simp;omega)))⟩
 ·have hg:=Og h0 (Int.not_le.1 hf);unfold Ft at hlk;rw[hg] at hlk;simp only[if_true,Option.isSome_none] at hlk;have HV:Hid (C3 H (kept++fs) 1 p=0):=A9 <| by
   unfold C3;rw[if_neg (by decide),if_neg (fun hh=>absurd hh.1 (by decide)),if_pos (by show AI (kept++fs) 2 p<0;omega)]
  clear h h0 h16 h4 hE hg hT hf;go_enter func227,ntmps227
  go_wp2_with fail
  go_ret;exact⟨by rw[HV.out];rfl,(AO.alloc (by simp) _)⟩
theorem VH(gp gz cz gl B:Nat)(zs:List Int)(H:Nat->Ht)(kept fs:List P3)(p:Nat)(w:World)(hp:p<4096)(h0:∀q∈kept++fs,0<=q.fr)(h16:(H p).s=16->AI (kept++fs) 3 p<0)(h4:AI (kept++fs) 4 p<0)(h:Io w gp gz cz gl B zs H (BZ kept fs)):Calls prog 227 #[.pointer (some ⟨gp,0,none⟩),.int .i64 2,.int .i64 p] w (AM w (.int .u64 (C3 H (kept++fs) 2 p))):=by
 have k2:=h.c2;have k1:=h.c1;obtain⟨y0,y1,y2,y3⟩:=h.lay.cells p hp;have ygl:=h.lay.lt;have hlt:=h.lt;have hlk:=Gk B (BZ kept fs) 3 p true w h.map;obtain⟨E,hE⟩:∃E,H p=E:=⟨_,rfl⟩
 rw[hE] at y0 y1 y2 y3 h16;obtain⟨A,Bq,C,D⟩:=E;dsimp only at y0 y1 y2 y3 h16;have hT:((p:Nat):Int).toNat=p:=rfl;have L1:(0:Int)<=(p:Int):=by omega
 have L2:(p:Int)<4096:=by omega
 by_cases hf:0<=AI (kept++fs) 3 p
 ·obtain⟨k,hg⟩:=Rj hf;have HV:Hid (C3 H (kept++fs) 2 p=Aw 2 1 (AI (kept++fs) 3 p) 0):=A9 <| by
   unfold C3;rw[if_neg (by decide),if_neg (fun hh=>by rw[hT,hE] at hh;have:=h16 hh.2;omega)];rw[if_neg (by show ¬AI (kept++fs) 3 p<0;omega)];rfl
  unfold Ft at hlk;rw[hg] at hlk;simp only[if_true,Option.isSome_some] at hlk;have he:=Dp 2 1 (AI (kept++fs) 3 p) 0;generalize Aw 2 1 (AI (kept++fs) 3 p) 0=X at HV he;generalize AI (kept++fs) 3 p=F at hlk he hf;clear h h0 h16 h4 hE hg hT;go_enter func227,ntmps227
  go_wp2_with (go_at_call 240;refine(he _).mono ?_;rintro e w1 ⟨rfl,hb1⟩)
  go_ret;exact⟨by rw[HV.out];rfl,AO.trans (hb1.mono (by first|(simp;done)|(simp;omega)))⟩
 ·have hg:=Og h0 (Int.not_le.1 hf);unfold Ft at hlk;rw[hg] at hlk;simp only[if_true,Option.isSome_none] at hlk;by_cases hD:D=16
  ·subst hD;have HV:Hid (C3 H (kept++fs) 2 p=Aw 2 2 Bq C):=A9 <| by
    unfold C3;rw[if_neg (by decide),hT,hE,if_pos ⟨rfl,rfl⟩]
   have he:=Dp 2 2 Bq C;generalize Aw 2 2 Bq C=X at HV he;clear h h0 h16 h4 hE hg hT hf;(go_enter func227,ntmps227);(go_wp2_with (go_at_call 240;refine(he _).mono ?_;rintro e w1 ⟨rfl,hb1⟩));go_ret;exact⟨by rw[HV.out];rfl,(AO.alloc (by simp) _).trans (hb1.mono (by first|(simp;done)|(simp;omega)))⟩
  ·(have dD:(D==16)=false:=by simpa using hD);have HV:Hid (C3 H (kept++fs) 2 p=0):=A9 <| by
    unfold C3;rw[if_neg (by decide),hT,hE,if_neg (fun hh=>hD hh.2),if_pos (by show AI (kept++fs) 3 p<0;omega)]
   clear h h0 h16 h4 hE hg hT hf hD;(go_enter func227,ntmps227);(go_wp2_with fail);go_ret;exact⟨by rw[HV.out];rfl,(AO.alloc (by simp) _)⟩
theorem Ve(gp gz cz gl B:Nat)(zs:List Int)(H:Nat->Ht)(kept fs:List P3)(p:Nat)(w:World)(hp:p<4096)(h0:∀q∈kept++fs,0<=q.fr)(h16:(H p).s=16->AI (kept++fs) 3 p<0)(h4:AI (kept++fs) 4 p<0)(h:Io w gp gz cz gl B zs H (BZ kept fs)):Calls prog 227 #[.pointer (some ⟨gp,0,none⟩),.int .i64 3,.int .i64 p] w (AM w (.int .u64 (C3 H (kept++fs) 3 p))):=by
 have k2:=h.c2;have k1:=h.c1;obtain⟨y0,y1,y2,y3⟩:=h.lay.cells p hp;have ygl:=h.lay.lt;have hlt:=h.lt;have hlk:=Gk B (BZ kept fs) 4 p true w h.map;obtain⟨E,hE⟩:∃E,H p=E:=⟨_,rfl⟩
 rw[hE] at y0 y1 y2 y3 h16;obtain⟨A,Bq,C,D⟩:=E;dsimp only at y0 y1 y2 y3 h16;have hT:((p:Nat):Int).toNat=p:=rfl;have L1:(0:Int)<=(p:Int):=by omega
 have L2:(p:Int)<4096:=by omega
 have hg:=Og h0 h4;unfold Ft at hlk;rw[hg] at hlk;simp only[if_true,Option.isSome_none] at hlk;by_cases hA:A=1
 ·subst hA;have HV:Hid (C3 H (kept++fs) 3 p=Aw 3 3 Bq C):=A9 <| by
   unfold C3;rw[if_pos rfl,hT,hE,if_pos rfl]
  have he:=Dp 3 3 Bq C;generalize Aw 3 3 Bq C=X at HV he;clear h h0 h16 h4 hE hg hT;go_enter func227,ntmps227
  go_wp2_with (go_at_call 240;refine(he _).mono ?_;rintro e w1 ⟨rfl,hb1⟩)
  go_ret;exact⟨by rw[HV.out];rfl,(AO.alloc (by simp) _).trans (hb1.mono (by first|(simp;done)|(simp;omega)))⟩
 ·have dA:(A==1)=false:=by simpa using hA
  have HV:Hid (C3 H (kept++fs) 3 p=0):=A9 <| by
   unfold C3;rw[if_pos rfl,hT,hE,if_neg hA]
  clear h h0 h16 h4 hE hg hT hA;go_enter func227,ntmps227
  go_wp2_with fail
  go_ret;exact⟨by rw[HV.out];rfl,(AO.alloc (by simp) _)⟩
theorem Qb(gp gz cz gl B:Nat)(zs:List Int)(H:Nat->Ht)(kept fs:List P3)(lv p:Nat)(w:World)(h1:1<=lv)(h3:lv<=3)(hp:p<4096)(h0:∀q∈kept++fs,0<=q.fr)(h16:(H p).s=16->AI (kept++fs) 3 p<0)(h4:AI (kept++fs) 4 p<0)(h:Io w gp gz cz gl B zs H (BZ kept fs)):Calls prog 227 #[.pointer (some ⟨gp,0,none⟩),.int .i64 lv,.int .i64 p] w (AM w (.int .u64 (C3 H (kept++fs) lv p))):=by
 rcases(show lv=1\/lv=2\/lv=3 by omega) with rfl|rfl|rfl
 ·exact Ut gp gz cz gl B zs H kept fs p w hp h0 h16 h4 h
 ·exact VH gp gz cz gl B zs H kept fs p w hp h0 h16 h4 h
 ·exact Ve gp gz cz gl B zs H kept fs p w hp h0 h16 h4 h
structure Wu (zs:List Int) (H:Nat->Ht) (kept fs:List P3):Prop where
 fr:∀q∈kept++fs,0<=q.fr
 big:∀p:Nat,p<4096->(H p).s=16->AI (kept++fs) 3 p<0
 no4:∀p:Int,AI (kept++fs) 4 p<0
def GZ (zs:List Int) (H:Nat->Ht) (all:List P3) (lv pg ad:Int):Value:=.agg #[.int .i64 lv,.int .i64 pg,.int .i64 ad,.int .u64 (Fl zs ad),.int .u64 (C3 H all lv pg)]
theorem XL{w wF:World}{B:Nat}{v0 v1 v2 v3 v4 r0 r1 r2 r3 r4:Value}(h:wF=((((w.setCell ⟨B,0,none⟩ v0).setCell ⟨B,1,none⟩ v1).setCell ⟨B,2,none⟩ v2).setCell ⟨B,3,none⟩ v3).setCell ⟨B,4,none⟩ v4)(h0:w.cell? ⟨B,0,none⟩=some r0)(h1:w.cell? ⟨B,1,none⟩=some r1)(h2:w.cell? ⟨B,2,none⟩=some r2)(h3:w.cell? ⟨B,3,none⟩=some r3)(h4:w.cell? ⟨B,4,none⟩=some r4):wF.cell? ⟨B,0,none⟩=some v0/\wF.cell? ⟨B,1,none⟩=some v1/\wF.cell? ⟨B,2,none⟩=some v2/\wF.cell? ⟨B,3,none⟩=some v3/\wF.cell? ⟨B,4,none⟩=some v4:=by
 subst h;refine⟨?_,?_,?_,?_,?_⟩<;>simp[go_sem, *]
theorem Jx(gp gz cz gl B:Nat)(zs:List Int)(H:Nat->Ht)(kept fs:List P3)(fr lv p i:Nat)(w:World)(hzl:zs.length<=1048576)(h1:1<=lv)(h3:lv<=3)(hi:i<16)(hp:p+Ga lv<=4096)(hfr:fr*16+16<=zs.length)(hO:Wu zs H kept fs)(h:Io w gp gz cz gl B zs H (BZ kept fs)):Calls prog 193 #[.pointer (some ⟨gp,0,none⟩),.agg #[.int .i64 fr,.int .i64 lv,.int .i64 p],.int .i64 i] w (AM w (GZ zs H (kept++fs) lv (p+i*Ay lv:Nat) (fr*16+i:Nat))):=by
 obtain⟨wb,hwb⟩:∃wb,wb=(w.alloc (.cells #[.int .i64 fr,.int .i64 lv,.int .i64 p] 67)).alloc (.cells #[.int .i64 0,.int .i64 0,.int .i64 0,.int .u64 0,.int .u64 0] 275):=⟨_,rfl⟩
 have hbb:Bl w wb:=by rw[hwb];exact AO.alloc (by simp) _
 have hzb:wb.heap.size=w.heap.size+2:=by rw[hwb];simp
 have q1:wb.cell? ⟨w.heap.size,1,none⟩=some (.int .i64 lv):=by rw[hwb];simp[go_sem]
 have q2:wb.cell? ⟨w.heap.size,2,none⟩=some (.int .i64 p):=by rw[hwb];simp[go_sem]
 have e0:wb.cell? ⟨w.heap.size+1,0,none⟩=some (.int .i64 0):=by rw[hwb];simp[go_sem]
 have e1:wb.cell? ⟨w.heap.size+1,1,none⟩=some (.int .i64 0):=by rw[hwb];simp[go_sem]
 have e2:wb.cell? ⟨w.heap.size+1,2,none⟩=some (.int .i64 0):=by rw[hwb];simp[go_sem]
 have e3:wb.cell? ⟨w.heap.size+1,3,none⟩=some (.int .u64 0):=by rw[hwb];simp[go_sem]
 have e4:wb.cell? ⟨w.heap.size+1,4,none⟩=some (.int .u64 0):=by rw[hwb];simp[go_sem]
 have f0:∀k,wb.frozen? ⟨w.heap.size+1,k,none⟩=false:=fun k=>by rw[hwb];simp[go_sem]
 have hpb:=h.below hbb;have hX:p+i*Ay lv<4096:=by
  rcases(show lv=1\/lv=2\/lv=3 by omega) with rfl|rfl|rfl
  ·have a1:Ga 1=4096:=rfl;have a2:Ay 1=256:=rfl;rw[a1] at hp;rw[a2];omega
  ·have a1:Ga 2=256:=rfl;have a2:Ay 2=16:=rfl;rw[a1] at hp;rw[a2];omega
  ·have a1:Ga 3=16:=rfl;have a2:Ay 3=1:=rfl;rw[a1] at hp;rw[a2];omega
 obtain⟨X,hXX⟩:∃X,p+i*Ay lv=X:=⟨_,rfl⟩
 have hcv:=BJ lv;rw[Cx lv] at hcv;have HRW:Hid (∀wX,Bl wb wX->Calls prog 227 #[.pointer (some ⟨gp,0,none⟩),.int .i64 lv,.int .i64 X] wX (AM wX (.int .u64 (C3 H (kept++fs) lv X)))):=fun wX hb=>Qb gp gz cz gl B zs H kept fs lv X wX h1 h3 (by omega) hO.fr (hO.big X (by omega)) (hO.no4 X) (hpb.below hb)
 obtain⟨AD,hAD⟩:∃AD,fr*16+i=AD:=⟨_,rfl⟩
 have hz0:=h.words.cell (i:=AD) (by omega);obtain⟨Z,hZ⟩:∃Z,zs.getD AD 0=Z:=⟨_,rfl⟩
 rw[hZ] at hz0;have HWZ:Hid (Fl zs AD=Z):=hZ;obtain⟨RG,hRG⟩:∃RG,C3 H (kept++fs) lv X=RG:=⟨_,rfl⟩
 rw[hRG] at HRW;have HV:Hid (GZ zs H (kept++fs) lv (p+i*Ay lv:Nat) (fr*16+i:Nat)=.agg #[.int .i64 lv,.int .i64 X,.int .i64 AD,.int .u64 Z,.int .u64 RG]):=A9 <| by
  unfold GZ;rw[hXX,hAD,hRG,HWZ.out]
 have glt:=h.words.lt;have HK:Hid (∀wX,Below (w.heap.size+1) wb wX->wX.cell? ⟨w.heap.size,1,none⟩=some (.int .i64 lv)/\wX.cell? ⟨w.heap.size,2,none⟩=some (.int .i64 p)/\wX.cell? ⟨gp,0,none⟩=some (.slice (some ⟨gz,0,none⟩) zs.length cz)/\wX.cell? ⟨gz,AD,none⟩=some (.int .u64 Z)):=fun wX hX=>⟨(hX.cell (by simp)).trans q1,(hX.cell (by simp)).trans q2,(hX.cell (p:=⟨gp,0,none⟩) (by have:=h.lt;show gp<_;omega)).trans hpb.c0,(hX.cell (p:=⟨gz,AD,none⟩) (by show gz<_;omega)).trans ((hbb.cell (p:=⟨gz,AD,none⟩) (by show gz<_;omega)).trans hz0)⟩
 have HE:Hid (∀wX,Bl wb wX->(wX.cell? ⟨w.heap.size+1,0,none⟩=some (.int .i64 0)/\wX.cell? ⟨w.heap.size+1,1,none⟩=some (.int .i64 0)/\wX.cell? ⟨w.heap.size+1,2,none⟩=some (.int .i64 0)/\wX.cell? ⟨w.heap.size+1,3,none⟩=some (.int .u64 0)/\wX.cell? ⟨w.heap.size+1,4,none⟩=some (.int .u64 0))/\∀k,wX.frozen? ⟨w.heap.size+1,k,none⟩=false):=fun wX hX=>by
  have hl:w.heap.size+1<wb.heap.size:=by omega
  exact⟨⟨(hX.cell (p:=⟨w.heap.size+1,0,none⟩) hl).trans e0,(hX.cell (p:=⟨w.heap.size+1,1,none⟩) hl).trans e1,(hX.cell (p:=⟨w.heap.size+1,2,none⟩) hl).trans e2,(hX.cell (p:=⟨w.heap.size+1,3,none⟩) hl).trans e3,(hX.cell (p:=⟨w.heap.size+1,4,none⟩) hl).trans e4⟩,fun k=>(hX.frozen (p:=⟨w.heap.size+1,k,none⟩) hl).trans (f0 k)⟩
 have L1:(0:Int)<=(AD:Int):=by omega
 have L2:(AD:Int)<(zs.length:Int):=by omega
 have L3:((AD:Nat):Int).toNat=AD:=rfl;have W1:=AR ((fr:Int)*16);have W2:IntKind.i64.wrap ((fr:Int)*16+(i:Int))=(AD:Int):=by rw[IntKind.wrap_i64];omega
 have hieX:i*Ay lv<=4096:=by omega
 obtain⟨EP,hEP⟩:∃EP,Ay lv=EP:=⟨_,rfl⟩
 rw[hEP] at hcv hXX hieX;obtain⟨PR,hPR⟩:∃PR,i*EP=PR:=⟨_,rfl⟩
 have hPR2:(i:Int)*(EP:Int)=(PR:Int):=by rw[<- hPR];simp
 rw[hPR] at hXX hieX;have W3:IntKind.i64.wrap ((i:Int)*(EP:Int))=(PR:Int):=by rw[hPR2,IntKind.wrap_i64];omega
 have W4:IntKind.i64.wrap ((p:Int)+(PR:Int))=(X:Int):=by rw[IntKind.wrap_i64];omega
 have HWB:Hid (wb=_):=hwb;have HBB:Hid (Bl w wb):=hbb;have N0:w.heap.size+1<wb.heap.size:=by omega
 have k0:=HK.out wb AH;clear hwb hbb hzb hpb h hO hZ hRG hz0 e0 e1 e2 e3 e4 f0 q1 q2 hp hfr hX hPR hPR2 hEP hieX;go_enter func193,ntmps193
 go_wp2_with fail
 rw[<- HWB.out];obtain⟨q1,q2,k1,k2⟩:=k0;go_wp2_with fail
 refine wp_region_held_drew (S:=fun wX=>wX.cell? ⟨w.heap.size,1,none⟩=some (.int .i64 lv)/\wX.cell? ⟨w.heap.size,2,none⟩=some (.int .i64 p)) (by kernel_rfl) ⟨q1,q2⟩ (fun hHeld=>?_);refine tk 0 ?_;refine tk 1 ?_;refine tk 2 ?_;refine tk 3 ?_;refine tk 4 ?_;refine Aj 5 fun K hK=>?_
 go_simp;refine(hcv _).mono ?_;rintro e w1 ⟨rfl,hw1⟩;obtain rfl:=hw1.symm;go_wp2_with fail
 refine hK.out _ _ ⟨q1,q2⟩ (fun hHeld2=>?_);clear hK K;refine tk 6 ?_;refine tk 7 ?_;refine tk 8 ?_;refine AZ ?_;clear hHeld hHeld2;go_wp2_with fail
 refine wp_region_held_drew (S:=fun wX=>wX.cell? ⟨w.heap.size,1,none⟩=some (.int .i64 lv)/\wX.cell? ⟨w.heap.size,2,none⟩=some (.int .i64 p)/\wX.cell? ⟨gp,0,none⟩=some (.slice (some ⟨gz,0,none⟩) zs.length cz)/\wX.cell? ⟨gz,AD,none⟩=some (.int .u64 Z)) (by kernel_rfl) ⟨q1,q2,k1,k2⟩ (fun hHeld=>?_);refine tk 0 ?_;refine tk 1 ?_;refine tk 2 ?_;refine tk 3 ?_;refine tk 4 ?_;refine tk 5 ?_;refine tk 6 ?_;refine tk 7 ?_;refine tk 8 ?_;refine tk 9 ?_;refine tk 10 ?_;refine tk 11 ?_;refine tk 12 ?_;refine tk 13 ?_;refine tk 14 ?_;refine tk 15 ?_;refine Aj 16 fun K hK=>?_
 go_simp;refine(HRW.out _ (AH.drew.drew)).mono ?_;rintro e w1 ⟨rfl,hb1'⟩;have hb1:Bl wb w1:=AH.drew.drew.trans (hb1'.mono (by simp));clear hb1';obtain⟨⟨e0,e1,e2,e3,e4⟩,f0⟩:=HE.out w1 hb1;have g0:=f0 0;have g1:=f0 1;have g2:=f0 2;have g3:=f0 3;have g4:=f0 4;have hS1:=HK.out w1 (hb1.mono (by omega));have HS5:Hid (∀v0 v1 v2 v3 v4,Below (w.heap.size+1) wb (((((w1.setCell ⟨w.heap.size+1,0,none⟩ v0).setCell ⟨w.heap.size+1,1,none⟩ v1).setCell ⟨w.heap.size+1,2,none⟩ v2).setCell ⟨w.heap.size+1,3,none⟩ v3).setCell ⟨w.heap.size+1,4,none⟩ v4)):=fun v0 v1 v2 v3 v4=>(((((hb1.mono (show w.heap.size+1<=wb.heap.size by omega)).setCell (Nat.le_refl _) _).setCell (Nat.le_refl _) _).setCell (Nat.le_refl _) _).setCell (Nat.le_refl _) _).setCell (Nat.le_refl _) _
 clear hb1 f0;go_wp2_with fail
 refine hK.out _ _ hS1 (fun hHeld2=>?_);clear hK K;refine tk 17 ?_;refine Aj 18 fun K hK=>?_
 go_simp;refine hK.out _ _ (HK.out _ (HS5.out _ _ _ _ _)) (fun hHeld3=>?_);clear hK K;refine AZ ?_;clear hHeld hHeld2 hHeld3;go_wp2_with fail
 obtain⟨wF,hwF⟩:∃wF,wF=((((w1.setCell ⟨w.heap.size+1,0,none⟩ (.int .i64 lv)).setCell ⟨w.heap.size+1,1,none⟩ (.int .i64 X)).setCell ⟨w.heap.size+1,2,none⟩ (.int .i64 AD)).setCell ⟨w.heap.size+1,3,none⟩ (.int .u64 Z)).setCell ⟨w.heap.size+1,4,none⟩ (.int .u64 RG):=⟨_,rfl⟩
 rw[<- hwF];obtain⟨r0,r1,r2,r3,r4⟩:=XL hwF e0 e1 e2 e3 e4;have hbF:Bl w wF:=by rw[hwF];exact HBB.out.trans ((HS5.out _ _ _ _ _).mono (by omega))
 refine bodyPost_ret (v:=.agg #[.int .i64 lv,.int .i64 X,.int .i64 AD,.int .u64 Z,.int .u64 RG]) (by simp[results,results193,go_sem,r0,r1,r2,r3,r4]) rfl ⟨by rw[HV.out],hbF⟩
theorem Wj(z:Int)(h0:0<=z)(h1:z<18446744073709551616):(bits .and .u64 z 1 != 0)=decide (z%2=1):=by
 rw[IA z h0 h1];by_cases h:z%2=1
 ·rw[decide_eq_true h,h];rfl
 ·rw[decide_eq_false h,show z%2=0 by omega];rfl
theorem Lw(zs:List Int)(H:Nat->Ht)(all:List P3)(lv pg ad:Int)(w:World)(hz:0<=Fl zs ad/\Fl zs ad<18446744073709551616):Calls prog 187 #[GZ zs H all lv pg ad] w (AM w (.bool (GW zs H all ⟨lv,pg,ad⟩))):=by
 have HB:Hid (GW zs H all ⟨lv,pg,ad⟩=decide (Fl zs ad%2=1/\¬Fl zs ad=C3 H all lv pg)):=rfl;unfold GZ;generalize Fl zs ad=Z at *;generalize C3 H all lv pg=R at *;have hb:=Wj Z hz.1 hz.2;by_cases h1:Z%2=1
 ·rw[decide_eq_true h1] at hb;by_cases h2:Z=R
  ·(have d:(Z != R)=false:=by simpa using h2);have HQ:Hid (decide (Z%2=1/\¬Z=R)=false):=A9 <| decide_eq_false (fun h=>h.2 h2);clear h1 h2 hz;(go_enter func187,ntmps187);(go_wp2_with fail);go_ret;exact⟨by rw[HB.out,HQ.out];rfl,AO⟩
  ·(have d:(Z != R)=true:=by simpa using h2);have HQ:Hid (decide (Z%2=1/\¬Z=R)=true):=A9 <| decide_eq_true ⟨h1,h2⟩;clear h1 h2 hz;(go_enter func187,ntmps187);(go_wp2_with fail);go_ret;exact⟨by rw[HB.out,HQ.out];rfl,AO⟩
 ·rw[decide_eq_false h1] at hb;have HQ:Hid (decide (Z%2=1/\¬Z=R)=false):=A9 <| decide_eq_false (fun h=>h1 h.1);clear h1 hz;go_enter func187,ntmps187
  go_wp2_with fail
  go_ret;exact⟨by rw[HB.out,HQ.out];rfl,AO⟩
theorem Ql(zs:List Int)(H:Nat->Ht)(all:List P3)(lv pg ad:Int)(w:World):Calls prog 196 #[GZ zs H all lv pg ad] w (AM w (.bool (MT zs H all ⟨lv,pg,ad⟩))):=by
 have HB:Hid (MT zs H all ⟨lv,pg,ad⟩=decide (¬C3 H all lv pg=0/\¬C3 H all lv pg=Fl zs ad)):=rfl;unfold GZ;generalize Fl zs ad=Z at *;generalize C3 H all lv pg=R at *;by_cases h1:R=0
 ·have d1:(R != 0)=false:=by simpa using h1
  have HQ:Hid (decide (¬R=0/\¬R=Z)=false):=A9 <| decide_eq_false (fun h=>h.1 h1);clear h1;go_enter func196,ntmps196
  go_wp2_with fail
  go_ret;exact⟨by rw[HB.out,HQ.out];rfl,AO⟩
 ·have d1:(R != 0)=true:=by simpa using h1
  by_cases h2:R=Z
  ·(have d:(R != Z)=false:=by simpa using h2);have HQ:Hid (decide (¬R=0/\¬R=Z)=false):=A9 <| decide_eq_false (fun h=>h.2 h2);clear h1 h2;(go_enter func196,ntmps196);(go_wp2_with fail);go_ret;exact⟨by rw[HB.out,HQ.out];rfl,AO⟩
  ·(have d:(R != Z)=true:=by simpa using h2);have HQ:Hid (decide (¬R=0/\¬R=Z)=true):=A9 <| decide_eq_true ⟨h1,h2⟩;clear h1 h2;(go_enter func196,ntmps196);(go_wp2_with fail);go_ret;exact⟨by rw[HB.out,HQ.out];rfl,AO⟩
end Go.Proofs.YtnmhkgmmpkjjeaaGreat
