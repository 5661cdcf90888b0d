import Derived.Test.YtnmhkgmmpkjjeaaGreatL19
import Derived.Test.YtnmhkgmmpkjjeaaGreatL20
namespace Go.Proofs.YtnmhkgmmpkjjeaaGreat
open Go.ChangeShapes Go.WideShapes Go.ChangeAt Go.RowKit
set_option linter.unusedVariables false
set_option maxRecDepth 100000
attribute [local go_sem ↓] Go.wp_at_zero Go.wp_at_succ
structure IS (w:World) (gp gz cz gl B:Nat) (zs:List Int) (H:Nat->Ht) (m:List HE):Prop where
 lt:gp<w.heap.size
 c0:w.cell? ⟨gp,0,none⟩=some (.slice (some ⟨gz,0,none⟩) zs.length cz)
 c1:w.cell? ⟨gp,1,none⟩=some (.pointer (some ⟨gl,0,none⟩))
 c2:w.cell? ⟨gp,2,none⟩=some (.map (some B))
 words:At w gz zs
 lay:Bw w gl H
 map:CU w B m
theorem IS.below {w w':World} {gp gz cz gl B:Nat} {zs:List Int} {H:Nat->Ht} {m:List HE} (h:IS w gp gz cz gl B zs H m) (hb:Below w.heap.size w w'):IS w' gp gz cz gl B zs H m :=
 ⟨Nat.lt_of_lt_of_le h.lt hb.size,(hb.cell (p:=⟨gp,0,none⟩) h.lt).trans h.c0,(hb.cell (p:=⟨gp,1,none⟩) h.lt).trans h.c1,(hb.cell (p:=⟨gp,2,none⟩) h.lt).trans h.c2,h.words.below hb h.words.lt,h.lay.below hb,h.map.below hb⟩
def BG (kept fs:List P3):List HE:=kept.map (fun q=>⟨q.lv,q.pg,q.fr,true⟩)++fs.map (fun q=>⟨q.lv,q.pg,q.fr,false⟩)
theorem J5 (qs:List P3) (b:Bool) (lv pg:Int):(qs.map (fun q=>(⟨q.lv,q.pg,q.fr,b⟩:HE))).find? (Rp lv pg)=(qs.find? (As lv pg)).map (fun q=>(⟨q.lv,q.pg,q.fr,b⟩:HE)):=by
 induction qs with
 | nil=>rfl
 | cons q r ih =>
  rw[List.map_cons];by_cases h:q.lv=lv/\q.pg=pg
  ·rw[List.find?_cons_of_pos (by unfold Rp;exact decide_eq_true ⟨h.1.symm,h.2.symm⟩),List.find?_cons_of_pos (by unfold As;exact decide_eq_true h)];rfl
  ·rw[List.find?_cons_of_neg (by unfold Rp;rw[decide_eq_false (fun hh=>h ⟨hh.1.symm,hh.2.symm⟩)];decide),List.find?_cons_of_neg (by unfold As;rw[decide_eq_false h];decide),ih]
theorem IF (kept fs:List P3) (lv pg:Int):F2 (BG kept fs) lv pg=match kept.find? (As lv pg) with
  | some q=>some ⟨q.lv,q.pg,q.fr,true⟩
  | none=>(fs.find? (As lv pg)).map (fun q=>⟨q.lv,q.pg,q.fr,false⟩):=by
 unfold F2 BG
 rw[List.find?_append,J5,J5]
 cases kept.find? (As lv pg)<;>rfl
theorem MJ {kept fs:List P3} {lv pg:Int} (h0:∀q∈kept++fs,0<=q.fr) (h:AH (kept++fs) lv pg<0):F2 (BG kept fs) lv pg=none:=by
 rw[IF];have hn:∀q∈kept++fs,As lv pg q=false:=by
  intro q hq;cases hs:As lv pg q
  ·rfl
  ·exfalso;have hf:∃r,(kept++fs).find? (As lv pg)=some r:=by
    have:=List.find?_isSome.2 ⟨q,hq,hs⟩;exact Option.isSome_iff_exists.1 this
   obtain⟨r,hr⟩:=hf;have hrm:=List.mem_of_find?_eq_some hr;have:=h0 r hrm;unfold AH at h;rw[hr] at h;dsimp only at h;omega
 rw[List.find?_eq_none.2 (fun q hq=>by rw[hn q (List.mem_append_left _ hq)];decide),List.find?_eq_none.2 (fun q hq=>by rw[hn q (List.mem_append_right _ hq)];decide)];rfl
theorem QM {kept fs:List P3} {lv pg:Int} (h:0<=AH (kept++fs) lv pg):∃k,F2 (BG kept fs) lv pg=some ⟨lv,pg,AH (kept++fs) lv pg,k⟩:=by
 rw[IF];unfold AH at h ⊢;rw[List.find?_append] at h ⊢;cases hk:kept.find? (As lv pg) with
 | some q =>
  have hs:As lv pg q=true:=List.find?_some hk;unfold As at hs;have:=of_decide_eq_true hs;refine⟨true,?_⟩;show some (⟨q.lv,q.pg,q.fr,true⟩:HE)=_;rw[this.1,this.2];rfl
 | none =>
  rw[hk] at h;cases hf:fs.find? (As lv pg) with
  | some q =>
   have hs:As lv pg q=true:=List.find?_some hf;unfold As at hs;have:=of_decide_eq_true hs;refine⟨false,?_⟩;show some (⟨q.lv,q.pg,q.fr,false⟩:HE)=_;rw[this.1,this.2];rfl
  | none=>rw[hf] at h;simp at h
theorem QR {kept fs:List P3} {lv pg:Int} (h:0<=AH kept lv pg):F2 (BG kept fs) lv pg=some ⟨lv,pg,AH kept lv pg,true⟩:=by
 rw[IF];unfold AH at h ⊢;cases hk:kept.find? (As lv pg) with
 | some q =>
  have hs:As lv pg q=true:=List.find?_some hk;unfold As at hs;have:=of_decide_eq_true hs;show some (⟨q.lv,q.pg,q.fr,true⟩:HE)=_;rw[this.1,this.2]
 | none=>rw[hk] at h;simp at h
theorem Vs {kept fs:List P3} {lv pg:Int} (h0:∀q∈kept,0<=q.fr) (h:AH kept lv pg<0):∀x,F2 (BG kept fs) lv pg=some x->x.kp=false:=by
 intro x hx;rw[IF] at hx;unfold AH at h;cases hk:kept.find? (As lv pg) with
 | some q =>
  rw[hk] at h;have:=h0 q (List.mem_of_find?_eq_some hk);dsimp only at h;omega
 | none =>
  rw[hk] at hx;cases hf:fs.find? (As lv pg) with
  | some q=>rw[hf] at hx;simp at hx;rw[<- hx]
  | none=>rw[hf] at hx;simp at hx
set_option maxHeartbeats 1000000 in
theorem T9 (gp gz cz gl B:Nat) (zs:List Int) (H:Nat->Ht) (kept fs:List P3) (p:Nat) (w:World) (hp:p<4096) (h0:∀q∈kept++fs,0<=q.fr) (h16:(H p).s=16->AH (kept++fs) 3 p<0) (h4:AH (kept++fs) 4 p<0) (h:IS w gp gz cz gl B zs H (BG kept fs)) : Calls Tryz.prog 227 #[.pointer (some ⟨gp,0,none⟩),.int .i64 1,.int .i64 p] w fun e w'=>e=.returned (.int .u64 (Bv H (kept++fs) 1 p))/\Below w.heap.size w w':=by
 have k2:=h.c2;have k1:=h.c1;obtain⟨y0,y1,y2,y3⟩:=h.lay.cells p hp;have ygl:=h.lay.lt;have hlt:=h.lt;have hlk:=GD B (BG kept fs) 2 p true w h.map;obtain⟨E,hE⟩:∃E,H p=E:=⟨_,rfl⟩
 rw[hE] at y0 y1 y2 y3 h16;obtain⟨A,Bq,C,D⟩:=E;dsimp only at y0 y1 y2 y3 h16;have hT:((p:Nat):Int).toNat=p:=rfl;have L1:(0:Int)<=(p:Int):=by omega
 have L2:(p:Int)<4096:=by omega
 have hal:Tryz.prog.arrayLen 220=4096:=by kernel_rfl
 by_cases hf:0<=AH (kept++fs) 2 p
 ·obtain⟨k,hg⟩:=QM hf;have HV:Hid (Bv H (kept++fs) 1 p=BZ 1 1 (AH (kept++fs) 2 p) 0):=A3 <| by
   unfold Bv;rw[if_neg (by decide),if_neg (fun hh=>absurd hh.1 (by decide))];rw[if_neg (by show ¬AH (kept++fs) 2 p<0;omega)];rfl
  unfold FT at hlk;rw[hg] at hlk;simp only[if_true,Option.isSome_some] at hlk;have he:=DV 1 1 (AH (kept++fs) 2 p) 0;generalize BZ 1 1 (AH (kept++fs) 2 p) 0=X at HV he;generalize AH (kept++fs) 2 p=F at hlk he hf;clear h h0 h16 h4 hE hg hT;go_enter Tryz.func227,Tryz.ntmps227
  go_wp2_with (go_at_call 240;refine(he _).mono ?_;rintro e w1 ⟨rfl,hb1⟩)
  go_ret;exact⟨by rw[HV.out];rfl,Ao.trans (hb1.mono (by first|(simp;done)|(simp;omega)))⟩
 ·have hg:=MJ h0 (Int.not_le.1 hf);unfold FT at hlk;rw[hg] at hlk;simp only[if_true,Option.isSome_none] at hlk;have HV:Hid (Bv H (kept++fs) 1 p=0):=A3 <| by
   unfold Bv;rw[if_neg (by decide),if_neg (fun hh=>absurd hh.1 (by decide)),if_pos (by show AH (kept++fs) 2 p<0;omega)]
  clear h h0 h16 h4 hE hg hT hf;go_enter Tryz.func227,Tryz.ntmps227
  go_wp2_with fail
  go_ret;exact⟨by rw[HV.out];rfl,(Ao.alloc (by simp) _)⟩
set_option maxHeartbeats 1000000 in
theorem TN (gp gz cz gl B:Nat) (zs:List Int) (H:Nat->Ht) (kept fs:List P3) (p:Nat) (w:World) (hp:p<4096) (h0:∀q∈kept++fs,0<=q.fr) (h16:(H p).s=16->AH (kept++fs) 3 p<0) (h4:AH (kept++fs) 4 p<0) (h:IS w gp gz cz gl B zs H (BG kept fs)) : Calls Tryz.prog 227 #[.pointer (some ⟨gp,0,none⟩),.int .i64 2,.int .i64 p] w fun e w'=>e=.returned (.int .u64 (Bv H (kept++fs) 2 p))/\Below w.heap.size w w':=by
 have k2:=h.c2;have k1:=h.c1;obtain⟨y0,y1,y2,y3⟩:=h.lay.cells p hp;have ygl:=h.lay.lt;have hlt:=h.lt;have hlk:=GD B (BG kept fs) 3 p true w h.map;obtain⟨E,hE⟩:∃E,H p=E:=⟨_,rfl⟩
 rw[hE] at y0 y1 y2 y3 h16;obtain⟨A,Bq,C,D⟩:=E;dsimp only at y0 y1 y2 y3 h16;have hT:((p:Nat):Int).toNat=p:=rfl;have L1:(0:Int)<=(p:Int):=by omega
 have L2:(p:Int)<4096:=by omega
 have hal:Tryz.prog.arrayLen 220=4096:=by kernel_rfl
 by_cases hf:0<=AH (kept++fs) 3 p
 ·obtain⟨k,hg⟩:=QM hf;have HV:Hid (Bv H (kept++fs) 2 p=BZ 2 1 (AH (kept++fs) 3 p) 0):=A3 <| by
   unfold Bv;rw[if_neg (by decide),if_neg (fun hh=>by rw[hT,hE] at hh;have:=h16 hh.2;omega)];rw[if_neg (by show ¬AH (kept++fs) 3 p<0;omega)];rfl
  unfold FT at hlk;rw[hg] at hlk;simp only[if_true,Option.isSome_some] at hlk;have he:=DV 2 1 (AH (kept++fs) 3 p) 0;generalize BZ 2 1 (AH (kept++fs) 3 p) 0=X at HV he;generalize AH (kept++fs) 3 p=F at hlk he hf;clear h h0 h16 h4 hE hg hT;go_enter Tryz.func227,Tryz.ntmps227
  go_wp2_with (go_at_call 240;refine(he _).mono ?_;rintro e w1 ⟨rfl,hb1⟩)
  go_ret;exact⟨by rw[HV.out];rfl,Ao.trans (hb1.mono (by first|(simp;done)|(simp;omega)))⟩
 ·have hg:=MJ h0 (Int.not_le.1 hf);unfold FT at hlk;rw[hg] at hlk;simp only[if_true,Option.isSome_none] at hlk;by_cases hD:D=16
  ·subst hD;have HV:Hid (Bv H (kept++fs) 2 p=BZ 2 2 Bq C):=A3 <| by
    unfold Bv;rw[if_neg (by decide),hT,hE,if_pos ⟨rfl,rfl⟩]
   have he:=DV 2 2 Bq C;generalize BZ 2 2 Bq C=X at HV he;clear h h0 h16 h4 hE hg hT hf;(go_enter Tryz.func227,Tryz.ntmps227);(go_wp2_with (go_at_call 240;refine(he _).mono ?_;rintro e w1 ⟨rfl,hb1⟩));go_ret;exact⟨by rw[HV.out];rfl,(Ao.alloc (by simp) _).trans (hb1.mono (by first|(simp;done)|(simp;omega)))⟩
  ·(have dD:(D==16)=false:=by simpa using hD);have HV:Hid (Bv H (kept++fs) 2 p=0):=A3 <| by
    unfold Bv;rw[if_neg (by decide),hT,hE,if_neg (fun hh=>hD hh.2),if_pos (by show AH (kept++fs) 3 p<0;omega)]
   clear h h0 h16 h4 hE hg hT hf hD;(go_enter Tryz.func227,Tryz.ntmps227);(go_wp2_with fail);go_ret;exact⟨by rw[HV.out];rfl,(Ao.alloc (by simp) _)⟩
set_option maxHeartbeats 1000000 in
theorem T5 (gp gz cz gl B:Nat) (zs:List Int) (H:Nat->Ht) (kept fs:List P3) (p:Nat) (w:World) (hp:p<4096) (h0:∀q∈kept++fs,0<=q.fr) (h16:(H p).s=16->AH (kept++fs) 3 p<0) (h4:AH (kept++fs) 4 p<0) (h:IS w gp gz cz gl B zs H (BG kept fs)) : Calls Tryz.prog 227 #[.pointer (some ⟨gp,0,none⟩),.int .i64 3,.int .i64 p] w fun e w'=>e=.returned (.int .u64 (Bv H (kept++fs) 3 p))/\Below w.heap.size w w':=by
 have k2:=h.c2;have k1:=h.c1;obtain⟨y0,y1,y2,y3⟩:=h.lay.cells p hp;have ygl:=h.lay.lt;have hlt:=h.lt;have hlk:=GD B (BG kept fs) 4 p true w h.map;obtain⟨E,hE⟩:∃E,H p=E:=⟨_,rfl⟩
 rw[hE] at y0 y1 y2 y3 h16;obtain⟨A,Bq,C,D⟩:=E;dsimp only at y0 y1 y2 y3 h16;have hT:((p:Nat):Int).toNat=p:=rfl;have L1:(0:Int)<=(p:Int):=by omega
 have L2:(p:Int)<4096:=by omega
 have hal:Tryz.prog.arrayLen 220=4096:=by kernel_rfl
 have hg:=MJ h0 h4;unfold FT at hlk;rw[hg] at hlk;simp only[if_true,Option.isSome_none] at hlk;by_cases hA:A=1
 ·subst hA;have HV:Hid (Bv H (kept++fs) 3 p=BZ 3 3 Bq C):=A3 <| by
   unfold Bv;rw[if_pos rfl,hT,hE,if_pos rfl]
  have he:=DV 3 3 Bq C;generalize BZ 3 3 Bq C=X at HV he;clear h h0 h16 h4 hE hg hT;go_enter Tryz.func227,Tryz.ntmps227
  go_wp2_with (go_at_call 240;refine(he _).mono ?_;rintro e w1 ⟨rfl,hb1⟩)
  go_ret;exact⟨by rw[HV.out];rfl,(Ao.alloc (by simp) _).trans (hb1.mono (by first|(simp;done)|(simp;omega)))⟩
 ·have dA:(A==1)=false:=by simpa using hA
  have HV:Hid (Bv H (kept++fs) 3 p=0):=A3 <| by
   unfold Bv;rw[if_pos rfl,hT,hE,if_neg hA]
  clear h h0 h16 h4 hE hg hT hA;go_enter Tryz.func227,Tryz.ntmps227
  go_wp2_with fail
  go_ret;exact⟨by rw[HV.out];rfl,(Ao.alloc (by simp) _)⟩
theorem P0 (gp gz cz gl B:Nat) (zs:List Int) (H:Nat->Ht) (kept fs:List P3) (lv p:Nat) (w:World) (h1:1<=lv) (h3:lv<=3) (hp:p<4096) (h0:∀q∈kept++fs,0<=q.fr) (h16:(H p).s=16->AH (kept++fs) 3 p<0) (h4:AH (kept++fs) 4 p<0) (h:IS w gp gz cz gl B zs H (BG kept fs)) : Calls Tryz.prog 227 #[.pointer (some ⟨gp,0,none⟩),.int .i64 lv,.int .i64 p] w fun e w'=>e=.returned (.int .u64 (Bv H (kept++fs) lv p))/\Below w.heap.size w w':=by
 rcases(show lv=1\/lv=2\/lv=3 by omega) with rfl|rfl|rfl
 ·exact T9 gp gz cz gl B zs H kept fs p w hp h0 h16 h4 h
 ·exact TN gp gz cz gl B zs H kept fs p w hp h0 h16 h4 h
 ·exact T5 gp gz cz gl B zs H kept fs p w hp h0 h16 h4 h
structure Sm (zs:List Int) (H:Nat->Ht) (kept fs:List P3):Prop where
 fr:∀q∈kept++fs,0<=q.fr
 big:∀p:Nat,p<4096->(H p).s=16->AH (kept++fs) 3 p<0
 no4:∀p:Int,AH (kept++fs) 4 p<0
def Fw (zs:List Int) (H:Nat->Ht) (all:List P3) (lv pg ad:Int):Value:=.agg #[.int .i64 lv,.int .i64 pg,.int .i64 ad,.int .u64 (IV zs ad),.int .u64 (Bv H all lv pg)]
theorem Uh {w wF:World} {B:Nat} {v0 v1 v2 v3 v4 r0 r1 r2 r3 r4:Value} (h:wF=((((w.setCell ⟨B,0,none⟩ v0).setCell ⟨B,1,none⟩ v1).setCell ⟨B,2,none⟩ v2).setCell ⟨B,3,none⟩ v3).setCell ⟨B,4,none⟩ v4) (h0:w.cell? ⟨B,0,none⟩=some r0) (h1:w.cell? ⟨B,1,none⟩=some r1) (h2:w.cell? ⟨B,2,none⟩=some r2) (h3:w.cell? ⟨B,3,none⟩=some r3) (h4:w.cell? ⟨B,4,none⟩=some r4):wF.cell? ⟨B,0,none⟩=some v0/\wF.cell? ⟨B,1,none⟩=some v1/\wF.cell? ⟨B,2,none⟩=some v2/\wF.cell? ⟨B,3,none⟩=some v3/\wF.cell? ⟨B,4,none⟩=some v4:=by
 subst h;refine⟨?_,?_,?_,?_,?_⟩<;>simp[go_sem, *]
set_option maxHeartbeats 4000000 in
theorem J8 (gp gz cz gl B:Nat) (zs:List Int) (H:Nat->Ht) (kept fs:List P3) (fr lv p i:Nat) (w:World) (hzl:zs.length<=1048576) (h1:1<=lv) (h3:lv<=3) (hi:i<16) (hp:p+Hj lv<=4096) (hfr:fr*16+16<=zs.length) (hO:Sm zs H kept fs) (h:IS w gp gz cz gl B zs H (BG kept fs)) : Calls Tryz.prog 193 #[.pointer (some ⟨gp,0,none⟩),.agg #[.int .i64 fr,.int .i64 lv,.int .i64 p],.int .i64 i] w fun e w'=>e=.returned (Fw zs H (kept++fs) lv (p+i*Aq lv:Nat) (fr*16+i:Nat))/\Below w.heap.size w w':=by
 obtain⟨wb,hwb⟩:∃wb,wb=(w.alloc (.cells #[.int .i64 fr,.int .i64 lv,.int .i64 p] 67)).alloc (.cells #[.int .i64 0,.int .i64 0,.int .i64 0,.int .u64 0,.int .u64 0] 275):=⟨_,rfl⟩
 have hbb:Below w.heap.size w wb:=by rw[hwb];exact((Below.refl _ _).alloc (Nat.le_refl _) _).alloc (by simp) _
 have hzb:wb.heap.size=w.heap.size+2:=by rw[hwb];simp
 have q0:wb.cell? ⟨w.heap.size,0,none⟩=some (.int .i64 fr):=by rw[hwb];simp[go_sem]
 have q1:wb.cell? ⟨w.heap.size,1,none⟩=some (.int .i64 lv):=by rw[hwb];simp[go_sem]
 have q2:wb.cell? ⟨w.heap.size,2,none⟩=some (.int .i64 p):=by rw[hwb];simp[go_sem]
 have e0:wb.cell? ⟨w.heap.size+1,0,none⟩=some (.int .i64 0):=by rw[hwb];simp[go_sem]
 have e1:wb.cell? ⟨w.heap.size+1,1,none⟩=some (.int .i64 0):=by rw[hwb];simp[go_sem]
 have e2:wb.cell? ⟨w.heap.size+1,2,none⟩=some (.int .i64 0):=by rw[hwb];simp[go_sem]
 have e3:wb.cell? ⟨w.heap.size+1,3,none⟩=some (.int .u64 0):=by rw[hwb];simp[go_sem]
 have e4:wb.cell? ⟨w.heap.size+1,4,none⟩=some (.int .u64 0):=by rw[hwb];simp[go_sem]
 have f0:∀k,wb.frozen? ⟨w.heap.size+1,k,none⟩=false:=fun k=>by rw[hwb];simp[go_sem]
 have hpb:=h.below hbb;have hX:p+i*Aq lv<4096:=by
  rcases(show lv=1\/lv=2\/lv=3 by omega) with rfl|rfl|rfl
  ·have a1:Hj 1=4096:=rfl;have a2:Aq 1=256:=rfl;rw[a1] at hp;rw[a2];omega
  ·have a1:Hj 2=256:=rfl;have a2:Aq 2=16:=rfl;rw[a1] at hp;rw[a2];omega
  ·have a1:Hj 3=16:=rfl;have a2:Aq 3=1:=rfl;rw[a1] at hp;rw[a2];omega
 obtain⟨X,hXX⟩:∃X,p+i*Aq lv=X:=⟨_,rfl⟩
 have hcv:=CE lv;rw[CT lv] at hcv;have HRW:Hid (∀wX,Below wb.heap.size wb wX->Calls Tryz.prog 227 #[.pointer (some ⟨gp,0,none⟩),.int .i64 lv,.int .i64 X] wX fun e w'=>e=.returned (.int .u64 (Bv H (kept++fs) lv X))/\Below wX.heap.size wX w'):=fun wX hb=>P0 gp gz cz gl B zs H kept fs lv X wX h1 h3 (by omega) hO.fr (hO.big X (by omega)) (hO.no4 X) (hpb.below hb)
 obtain⟨AD,hAD⟩:∃AD,fr*16+i=AD:=⟨_,rfl⟩
 have hz0:=h.words.cell (i:=AD) (by omega);obtain⟨Z,hZ⟩:∃Z,zs.getD AD 0=Z:=⟨_,rfl⟩
 rw[hZ] at hz0;have HWZ:Hid (IV zs AD=Z):=hZ;obtain⟨RG,hRG⟩:∃RG,Bv H (kept++fs) lv X=RG:=⟨_,rfl⟩
 rw[hRG] at HRW;have HV:Hid (Fw zs H (kept++fs) lv (p+i*Aq lv:Nat) (fr*16+i:Nat)=.agg #[.int .i64 lv,.int .i64 X,.int .i64 AD,.int .u64 Z,.int .u64 RG]):=A3 <| by
  unfold Fw;rw[hXX,hAD,hRG,HWZ.out]
 have glt:=h.words.lt;have HK:Hid (∀wX,Below (w.heap.size+1) wb wX->wX.cell? ⟨w.heap.size,1,none⟩=some (.int .i64 lv)/\wX.cell? ⟨w.heap.size,2,none⟩=some (.int .i64 p)/\wX.cell? ⟨gp,0,none⟩=some (.slice (some ⟨gz,0,none⟩) zs.length cz)/\wX.cell? ⟨gz,AD,none⟩=some (.int .u64 Z)):=fun wX hX=>⟨(hX.cell (by simp)).trans q1,(hX.cell (by simp)).trans q2,(hX.cell (p:=⟨gp,0,none⟩) (by have:=h.lt;show gp<_;omega)).trans hpb.c0,(hX.cell (p:=⟨gz,AD,none⟩) (by show gz<_;omega)).trans ((hbb.cell (p:=⟨gz,AD,none⟩) (by show gz<_;omega)).trans hz0)⟩
 have HE:Hid (∀wX,Below wb.heap.size wb wX->(wX.cell? ⟨w.heap.size+1,0,none⟩=some (.int .i64 0)/\wX.cell? ⟨w.heap.size+1,1,none⟩=some (.int .i64 0)/\wX.cell? ⟨w.heap.size+1,2,none⟩=some (.int .i64 0)/\wX.cell? ⟨w.heap.size+1,3,none⟩=some (.int .u64 0)/\wX.cell? ⟨w.heap.size+1,4,none⟩=some (.int .u64 0))/\∀k,wX.frozen? ⟨w.heap.size+1,k,none⟩=false):=fun wX hX=>by
  have hl:w.heap.size+1<wb.heap.size:=by omega
  exact⟨⟨(hX.cell (p:=⟨w.heap.size+1,0,none⟩) hl).trans e0,(hX.cell (p:=⟨w.heap.size+1,1,none⟩) hl).trans e1,(hX.cell (p:=⟨w.heap.size+1,2,none⟩) hl).trans e2,(hX.cell (p:=⟨w.heap.size+1,3,none⟩) hl).trans e3,(hX.cell (p:=⟨w.heap.size+1,4,none⟩) hl).trans e4⟩,fun k=>(hX.frozen (p:=⟨w.heap.size+1,k,none⟩) hl).trans (f0 k)⟩
 have L1:(0:Int)<=(AD:Int):=by omega
 have L2:(AD:Int)<(zs.length:Int):=by omega
 have L3:((AD:Nat):Int).toNat=AD:=rfl;have W1:IntKind.i64.wrap ((fr:Int)*16)=(fr:Int)*16:=by rw[IntKind.wrap_i64];omega
 have W2:IntKind.i64.wrap ((fr:Int)*16+(i:Int))=(AD:Int):=by rw[IntKind.wrap_i64];omega
 have hieX:i*Aq lv<=4096:=by omega
 obtain⟨EP,hEP⟩:∃EP,Aq lv=EP:=⟨_,rfl⟩
 rw[hEP] at hcv hXX hieX;obtain⟨PR,hPR⟩:∃PR,i*EP=PR:=⟨_,rfl⟩
 have hPR2:(i:Int)*(EP:Int)=(PR:Int):=by rw[<- hPR];simp
 rw[hPR] at hXX hieX;have W3:IntKind.i64.wrap ((i:Int)*(EP:Int))=(PR:Int):=by rw[hPR2,IntKind.wrap_i64];omega
 have W4:IntKind.i64.wrap ((p:Int)+(PR:Int))=(X:Int):=by rw[IntKind.wrap_i64];omega
 have HWB:Hid (wb=_):=hwb;have HBB:Hid (Below w.heap.size w wb):=hbb;have HZB:Hid (wb.heap.size=w.heap.size+2):=hzb;have N0:w.heap.size+1<wb.heap.size:=by omega
 have N1:w.heap.size<wb.heap.size:=by omega
 have N2:gp<w.heap.size:=h.lt;have k0:=HK.out wb (Below.refl _ _);clear hwb hbb hzb hpb h hO hZ hRG hz0 e0 e1 e2 e3 e4 f0 q1 q2 hp hfr hX hPR hPR2 hEP hieX;go_enter Tryz.func193,Tryz.ntmps193
 go_wp2_with fail
 rw[<- HWB.out];obtain⟨q1,q2,k1,k2⟩:=k0;go_wp2_with fail
 refine wp_region_held_drew (S:=fun wX=>wX.cell? ⟨w.heap.size,1,none⟩=some (.int .i64 lv)/\wX.cell? ⟨w.heap.size,2,none⟩=some (.int .i64 p)) (by kernel_rfl) ⟨q1,q2⟩ (fun hHeld=>?_);refine tk 0 ?_;refine tk 1 ?_;refine tk 2 ?_;refine tk 3 ?_;refine tk 4 ?_;refine wpAnyH_ready (rs:=[5]) (by kernel_rfl) (by simp) ?_;refine AllReadyH.cons rfl (fun K hK=>?_) AllReadyH.nil;go_simp;refine(hcv _).mono ?_;rintro e w1 ⟨rfl,hw1⟩;obtain rfl:=hw1.symm;go_wp2_with fail
 refine hK.out _ _ ⟨q1,q2⟩ (fun hHeld2=>?_);clear hK K;refine tk 6 ?_;refine tk 7 ?_;refine tk 8 ?_;refine wpAnyH_done (by kernel_rfl) ?_ _;clear hHeld hHeld2;go_wp2_with fail
 refine wp_region_held_drew (S:=fun wX=>wX.cell? ⟨w.heap.size,1,none⟩=some (.int .i64 lv)/\wX.cell? ⟨w.heap.size,2,none⟩=some (.int .i64 p)/\wX.cell? ⟨gp,0,none⟩=some (.slice (some ⟨gz,0,none⟩) zs.length cz)/\wX.cell? ⟨gz,AD,none⟩=some (.int .u64 Z)) (by kernel_rfl) ⟨q1,q2,k1,k2⟩ (fun hHeld=>?_);refine tk 0 ?_;refine tk 1 ?_;refine tk 2 ?_;refine tk 3 ?_;refine tk 4 ?_;refine tk 5 ?_;refine tk 6 ?_;refine tk 7 ?_;refine tk 8 ?_;refine tk 9 ?_;refine tk 10 ?_;refine tk 11 ?_;refine tk 12 ?_;refine tk 13 ?_;refine tk 14 ?_;refine tk 15 ?_;refine wpAnyH_ready (rs:=[16]) (by kernel_rfl) (by simp) ?_;refine AllReadyH.cons rfl (fun K hK=>?_) AllReadyH.nil;go_simp;refine(HRW.out _ ((Below.refl _ _).drew.drew)).mono ?_;rintro e w1 ⟨rfl,hb1'⟩;have hb1:Below wb.heap.size wb w1:=(Below.refl _ _).drew.drew.trans (hb1'.mono (by simp));clear hb1';obtain⟨⟨e0,e1,e2,e3,e4⟩,f0⟩:=HE.out w1 hb1;have g0:=f0 0;have g1:=f0 1;have g2:=f0 2;have g3:=f0 3;have g4:=f0 4;have hS1:=HK.out w1 (hb1.mono (by omega));have HB1:Hid (Below wb.heap.size wb w1):=hb1;have M0:w.heap.size+1<w1.heap.size:=Nat.lt_of_lt_of_le N0 hb1.size;have HS5:Hid (∀v0 v1 v2 v3 v4,Below (w.heap.size+1) wb (((((w1.setCell ⟨w.heap.size+1,0,none⟩ v0).setCell ⟨w.heap.size+1,1,none⟩ v1).setCell ⟨w.heap.size+1,2,none⟩ v2).setCell ⟨w.heap.size+1,3,none⟩ v3).setCell ⟨w.heap.size+1,4,none⟩ v4)):=fun v0 v1 v2 v3 v4=>(((((hb1.mono (show w.heap.size+1<=wb.heap.size by omega)).setCell (Nat.le_refl _) _).setCell (Nat.le_refl _) _).setCell (Nat.le_refl _) _).setCell (Nat.le_refl _) _).setCell (Nat.le_refl _) _
 clear hb1 f0;go_wp2_with fail
 refine hK.out _ _ hS1 (fun hHeld2=>?_);clear hK K;refine tk 17 ?_;refine wpAnyH_ready (rs:=[18]) (by kernel_rfl) (by simp) ?_;refine AllReadyH.cons rfl (fun K hK=>?_) AllReadyH.nil;go_simp;refine hK.out _ _ (HK.out _ (HS5.out _ _ _ _ _)) (fun hHeld3=>?_);clear hK K;refine wpAnyH_done (by kernel_rfl) ?_ _;clear hHeld hHeld2 hHeld3;go_wp2_with fail
 obtain⟨wF,hwF⟩:∃wF,wF=((((w1.setCell ⟨w.heap.size+1,0,none⟩ (.int .i64 lv)).setCell ⟨w.heap.size+1,1,none⟩ (.int .i64 X)).setCell ⟨w.heap.size+1,2,none⟩ (.int .i64 AD)).setCell ⟨w.heap.size+1,3,none⟩ (.int .u64 Z)).setCell ⟨w.heap.size+1,4,none⟩ (.int .u64 RG):=⟨_,rfl⟩
 rw[<- hwF];obtain⟨r0,r1,r2,r3,r4⟩:=Uh hwF e0 e1 e2 e3 e4;have hbF:Below w.heap.size w wF:=by rw[hwF];exact HBB.out.trans ((HS5.out _ _ _ _ _).mono (by omega))
 refine bodyPost_ret (v:=.agg #[.int .i64 lv,.int .i64 X,.int .i64 AD,.int .u64 Z,.int .u64 RG]) (by simp[results,Tryz.results193,go_sem,r0,r1,r2,r3,r4]) rfl ⟨by rw[HV.out],hbF⟩
theorem Um (z:Int) (h0:0<=z) (h1:z<18446744073709551616):(bits .and .u64 z 1 != 0)=decide (z%2=1):=by
 rw[Gn z h0 h1];by_cases h:z%2=1
 ·rw[decide_eq_true h,h];rfl
 ·rw[decide_eq_false h,show z%2=0 by omega];rfl
set_option maxHeartbeats 1000000 in
theorem Kf (zs:List Int) (H:Nat->Ht) (all:List P3) (lv pg ad:Int) (w:World) (hz:0<=IV zs ad/\IV zs ad<18446744073709551616) : Calls Tryz.prog 187 #[Fw zs H all lv pg ad] w fun e w'=>e=.returned (.bool (JT zs H all ⟨lv,pg,ad⟩))/\Below w.heap.size w w':=by
 have HB:Hid (JT zs H all ⟨lv,pg,ad⟩=decide (IV zs ad%2=1/\¬IV zs ad=Bv H all lv pg)):=rfl;unfold Fw;generalize IV zs ad=Z at *;generalize Bv H all lv pg=R at *;have hb:=Um Z hz.1 hz.2;by_cases h1:Z%2=1
 ·rw[decide_eq_true h1] at hb;by_cases h2:Z=R
  ·(have d:(Z != R)=false:=by simpa using h2);have HQ:Hid (decide (Z%2=1/\¬Z=R)=false):=A3 <| decide_eq_false (fun h=>h.2 h2);clear h1 h2 hz;(go_enter Tryz.func187,Tryz.ntmps187);(go_wp2_with fail);go_ret;exact⟨by rw[HB.out,HQ.out];rfl,Ao⟩
  ·(have d:(Z != R)=true:=by simpa using h2);have HQ:Hid (decide (Z%2=1/\¬Z=R)=true):=A3 <| decide_eq_true ⟨h1,h2⟩;clear h1 h2 hz;(go_enter Tryz.func187,Tryz.ntmps187);(go_wp2_with fail);go_ret;exact⟨by rw[HB.out,HQ.out];rfl,Ao⟩
 ·rw[decide_eq_false h1] at hb;have HQ:Hid (decide (Z%2=1/\¬Z=R)=false):=A3 <| decide_eq_false (fun h=>h1 h.1);clear h1 hz;go_enter Tryz.func187,Tryz.ntmps187
  go_wp2_with fail
  go_ret;exact⟨by rw[HB.out,HQ.out];rfl,Ao⟩
set_option maxHeartbeats 1000000 in
theorem PK (zs:List Int) (H:Nat->Ht) (all:List P3) (lv pg ad:Int) (w:World) : Calls Tryz.prog 196 #[Fw zs H all lv pg ad] w fun e w'=>e=.returned (.bool (SH zs H all ⟨lv,pg,ad⟩))/\Below w.heap.size w w':=by
 have HB:Hid (SH zs H all ⟨lv,pg,ad⟩=decide (¬Bv H all lv pg=0/\¬Bv H all lv pg=IV zs ad)):=rfl;unfold Fw;generalize IV zs ad=Z at *;generalize Bv H all lv pg=R at *;by_cases h1:R=0
 ·have d1:(R != 0)=false:=by simpa using h1
  have HQ:Hid (decide (¬R=0/\¬R=Z)=false):=A3 <| decide_eq_false (fun h=>h.1 h1);clear h1;go_enter Tryz.func196,Tryz.ntmps196
  go_wp2_with fail
  go_ret;exact⟨by rw[HB.out,HQ.out];rfl,Ao⟩
 ·have d1:(R != 0)=true:=by simpa using h1
  by_cases h2:R=Z
  ·(have d:(R != Z)=false:=by simpa using h2);have HQ:Hid (decide (¬R=0/\¬R=Z)=false):=A3 <| decide_eq_false (fun h=>h.2 h2);clear h1 h2;(go_enter Tryz.func196,Tryz.ntmps196);(go_wp2_with fail);go_ret;exact⟨by rw[HB.out,HQ.out];rfl,Ao⟩
  ·(have d:(R != Z)=true:=by simpa using h2);have HQ:Hid (decide (¬R=0/\¬R=Z)=true):=A3 <| decide_eq_true ⟨h1,h2⟩;clear h1 h2;(go_enter Tryz.func196,Tryz.ntmps196);(go_wp2_with fail);go_ret;exact⟨by rw[HB.out,HQ.out];rfl,Ao⟩
end Go.Proofs.YtnmhkgmmpkjjeaaGreat
