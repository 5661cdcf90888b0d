import Derived.Test.YtnmhkgmmpkjjeaaGreatL29
import Derived.Test.YtnmhkgmmpkjjeaaGreatL31
namespace Go.Proofs.YtnmhkgmmpkjjeaaGreat
open Go.ChangeShapes Go.WideShapes Go.ChangeAt Go.RowKit
set_option linter.unusedVariables false
set_option maxRecDepth 100000
attribute [local go_sem ↓] Go.wp_at_zero Go.wp_at_succ
theorem R8 {xs:List AF} (h:VS xs) (p k:Nat) (hp:p%16=0) (hk:k<16) (hs:(DH xs (p:Nat)).s=16):(DH xs ((p+k:Nat):Int)).s=16:=by
 cases hf:xs.find? (fun e=>Hl e (p:Nat)) with
 | none =>
  unfold DH at hs;rw[hf] at hs;cases hs
 | some e =>
  have hm:=List.mem_of_find?_eq_some hf;obtain⟨j,hj,he⟩:=List.getElem_of_mem hm;have he':AI A8 xs j=e:=by
   unfold AI;rw[List.getD_eq_getElem?_getD,List.getElem?_eq_getElem hj,he];rfl
  unfold DH at hs;rw[hf] at hs;have hs':(if Cy e (p:Nat) then (16:Int) else 1)=16:=hs;have hb:Cy e (p:Nat)=true:=by
   cases hbb:Cy e (p:Nat)
   ·rw[hbb] at hs';cases hs'
   ·rfl
  have hb2:=hb;unfold Cy at hb2;rw[Bool.and_eq_true,decide_eq_true_eq] at hb2;obtain⟨hh,b1,b2,b3⟩:=hb2;have e0:((p:Nat):Int)%16=0:=by omega
  rw[e0] at b1 b2 b3;have hat:DH xs ((p+k:Nat):Int)=H8 (AI A8 xs j) ((p+k:Nat):Int):=by
   refine Mx _ xs j hj (fun i hi=>?_) ?_
   ·have:=h.lt i j hi hj;rw[he'] at this;unfold Hl;exact decide_eq_false (by omega)
   ·rw[he'];unfold Hl;exact decide_eq_true (by omega)
  rw[hat,he'];have hb3:Cy e ((p+k:Nat):Int)=true:=by
   unfold Cy;rw[Bool.and_eq_true,decide_eq_true_eq];(have e1:((p+k:Nat):Int)%16=k:=by omega);rw[e1];refine⟨hh,by omega,by omega,?_⟩;rw[show e.out+(((p+k:Nat):Int)-(k:Int))-e.page=e.out+((p:Int)-0)-e.page by omega];exact b3
  show (if Cy e ((p+k:Nat):Int) then (16:Int) else 1)=16;rw[hb3];rfl
theorem Vl {xs:List AF} (h:VS xs) (p:Nat) (hp:p%16=0) (hp2:p+16<=4096) (hs:(lay xs p).s=16):nd (lay xs) 3 p=false:=by
 rw[Hf xs p (by omega)] at hs;unfold nd;have e3:decide ((3:Nat)=1)=false:=rfl;rw[e3,Bool.false_or,List.any_eq_false];intro k hk;have hk':k<16:=List.mem_range.1 hk;unfold hB;rw[Hf xs (p+k) (by omega),R8 h p k hp hk' hs];simp
theorem Gc {H:Nat->Ht} {n:Nat} {ps:List P3} (hn:0<n) (h:BI n ps) (hw:(AA H 256).length<=n) {q:P3} (hq:q∈AC H ps++CM H ps):∃F lv pg:Nat,q=⟨F,lv,pg⟩/\1<=lv/\lv<=3/\pg+Hj lv<=4096/\nd H lv pg=true/\pg%Hj lv=0/\F<n:=by
 rcases List.mem_append.1 hq with hq|hq
 ·obtain⟨h1,h2,h3⟩:=DI h hq;have hf:=h.fr (by omega) (BE.1 hq).1;obtain⟨c1,c2,c3,c4,_,c6⟩:=Be h1;refine⟨q.fr.toNat,q.lv.toNat,q.pg.toNat,?_,c1,c2,c3,c4,c6,by omega⟩;obtain⟨a,b,c⟩:=q;simp only at h2 h3 hf ⊢;rw[h2,h3];simp only[P3.mk.injEq,and_true];omega
 ·obtain⟨j,hj,hj2,h1,h2,_,F,hF,hF2⟩:=DO hn h hw _ (Nat.le_refl _) q hq;obtain⟨c1,c2,c3,c4,_,c6⟩:=Be (List.getElem_mem hj2);refine⟨F,((AA H 256)[j]).1,((AA H 256)[j]).2,?_,c1,c2,c3,c4,c6,hF2⟩;obtain⟨a,b,c⟩:=q;simp only at h1 h2 hF;rw[h1,h2,hF]
theorem Vx {xs:List AF} {zs:List Int} {n:Nat} {ps:List P3} (hv:VS xs) (hn:0<n) (hn2:n<=512) (hz:zs.length=n*16) (h:BI n ps) (hw:(AA (lay xs) 256).length<=n):Ti zs (lay xs) (AC (lay xs) ps) (CM (lay xs) ps):=by
 refine⟨⟨fun q hq=>?_,fun p hp hs=>?_,fun p=>?_⟩,Ug (lay xs) (by omega) h,fun q hq=>?_,by omega,by omega⟩
 ·obtain⟨F,lv,pg,rfl,_⟩:=Gc hn h hw hq;exact Int.natCast_nonneg F
 ·refine Int.not_le.1 (fun h0=>?_);obtain⟨q,hq,e1,e2,_⟩:=E8 h0;obtain⟨F,lv,pg,rfl,l1,l3,lp,hnd,hmod,_⟩:=Gc hn h hw hq;have e1':lv=3:=by have:(lv:Int)=3:=e1;omega
  have e2':pg=p:=by have:(pg:Int)=(p:Int):=e2;omega
  subst e1' e2';have t3:Hj 3=16:=rfl;rw[t3] at lp hmod;rw[Vl hv pg hmod lp hs] at hnd;cases hnd
 ·refine Int.not_le.1 (fun h0=>?_);obtain⟨q,hq,e1,e2,_⟩:=E8 h0;obtain⟨F,lv,pg,rfl,l1,l3,_⟩:=Gc hn h hw hq;have:(lv:Int)=4:=e1;omega
 ·obtain⟨F,lv,pg,rfl,_,_,_,_,_,hF⟩:=Gc hn h hw (List.mem_append_left _ hq);refine⟨Int.natCast_nonneg F,?_⟩;show (F:Int)*16+16<=_;omega
theorem RZ {xs:List AF} {zs:List Int} {n:Nat} {ps:List P3} {w0 w:World} {gp gz cz gl M cR cC:Nat} {aR aC:Option Addr} (hv:VS xs) (hn:0<n) (hn2:n<=512) (hz:zs.length=n*16) (hzr:∀i,0<=zs.getD i 0/\zs.getD i 0<18446744073709551616) (h:BI n ps) (hw:(AA (lay xs) 256).length<=n) (hs:SS w0 w gp gz cz gl M zs (lay xs) (BG (AC (lay xs) ps) (CM (lay xs) ps)) aR cR (DR (CH (lay xs) ps) n) aC cC (CM (lay xs) ps)) : Pe w gp gz cz gl M zs (lay xs) n (AC (lay xs) ps) (CH (lay xs) ps) (CM (lay xs) ps) aR aC cR (w0.heap.size+1) cC (w0.heap.size+1):=by
 refine⟨hs.pst,Vx hv hn hn2 hz h hw,hzr,by have:=Md (CH (lay xs) ps) n;omega,hs.ret.cell,hs.ret.row,?_,fun q hq=>?_,hs.c3,hs.crow⟩
 ·have:=Er (AC (lay xs) ps) (AA (lay xs) 256) _ (Nat.le_refl _);have:(CM (lay xs) ps).length<=(AA (lay xs) 256).length:=this;omega
 ·obtain⟨F,lv,pg,rfl,l1,l3,lp,_,_,hF⟩:=Gc hn h hw (List.mem_append_right _ hq);exact⟨F,lv,pg,rfl,l1,l3,lp,by omega⟩
theorem Lb (zs:List Int) (n:Nat) (H:Nat->Ht) (ps:List P3):Gy zs H n (AC H ps) (CH H ps) (CM H ps) 5=AO zs n H ps:=by
 rw[Tr];rfl
end Go.Proofs.YtnmhkgmmpkjjeaaGreat
namespace Go.Proofs.YtnmhkgmmpkjjeaaGreat
open Go.ChangeShapes Go.WideShapes Go.ChangeAt Go.RowKit
set_option linter.unusedVariables false
def EG (n:Nat) (l:List Ay):Prop:=∀o∈l,o.kind=1->0<=o.a/\o.a<n
theorem EG.app {n:Nat} {l m:List Ay} (h1:EG n l) (h2:EG n m):EG n (l++m):=fun o ho=>(List.mem_append.1 ho).elim (h1 o) (h2 o)
theorem EG.seal {n:Nat} {l:List Ay} (h:EG n l):EG n (BB l):=by
 unfold BB;split
 ·intro o ho;cases ho
 ·refine h.app (fun o ho hk=>?_);rw[List.mem_singleton] at ho;subst ho;cases hk
theorem Mq {n:Nat} {ps:List P3} (H:Nat->Ht) (hn:0<n) (h:BI n ps) {e:En} (he:e∈Bk H ps):0<=e.ad/\e.ad<(n*16:Nat):=by
 obtain⟨page,lv,hp,h1,h3,hmod,e1,e2,h0,e3⟩:=IJ he;have hf:=MN H hn h lv (page-page%(Aq lv*16):Nat);have hm:page/Aq lv%16<16:=Nat.mod_lt _ (by decide);rw[e3];omega
theorem Tn {xs:List AF} {zs:List Int} {n:Nat} {ps:List P3} (hn:0<n) (h:BI n ps) (hw:(AA (lay xs) 256).length<=n):EG (n*16) (AO zs n (lay xs) ps):=by
 unfold AO;refine EG.app (EG.seal (fun o ho hk=>?_)) (EG.app (EG.seal (fun o ho hk=>?_)) (EG.app (fun o ho hk=>?_) (EG.app (EG.seal (fun o ho hk=>?_)) (EG.seal (fun o ho hk=>?_)))))
 ·unfold AR at ho;obtain⟨e,he,rfl⟩:=List.mem_map.1 ho;exact Mq (lay xs) hn h (List.mem_filter.1 he).1
 ·unfold Av at ho;obtain⟨e,he,rfl⟩:=List.mem_map.1 ho;cases hk
 ·unfold Ah at ho;obtain⟨e,he,rfl⟩:=List.mem_map.1 ho;cases hk
 ·unfold AK at ho;obtain⟨t,ht,ho⟩:=List.mem_flatMap.1 ho;unfold Al at ho;obtain⟨i,hi,rfl⟩:=List.mem_map.1 ho;obtain⟨F,lv,pg,rfl,_,_,_,_,_,hF⟩:=Gc hn h hw (List.mem_append_right _ ht);have:=List.mem_range.1 hi;show 0<=(F:Int)*16+(i:Nat)/\(F:Int)*16+(i:Nat)<_;omega
 ·unfold AZ at ho;obtain⟨e,he,rfl⟩:=List.mem_map.1 ho;exact Mq (lay xs) hn h (List.mem_filter.1 he).1
theorem O4 (zs:List Int) (xs:List AF):EG zs.length (BU zs xs).1:=by
 by_cases hpt:BO zs=true
 ·by_cases hvb:Eh xs=true
  ·by_cases hfr:Ae zs.length<((AA (lay xs) 256).length:Nat)
   ·rw[Ge hpt hvb hfr];intro o ho;cases ho
   ·rw[EU hpt hvb hfr];have hnf:=FJ hpt;obtain⟨hnm,hn1⟩:=BS zs.length hnf;(obtain⟨n,hnn⟩:∃n:Nat,Ae zs.length=n:=⟨(Ae zs.length).toNat,by omega⟩);(have hpo:BI n (A5 zs):=by rw[<- hnn];exact GK zs hnf);(have hT:(Ae zs.length).toNat=n:=by rw[hnn];rfl);rw[hT];have:=Tn (xs:=xs) (zs:=zs) (n:=n) (ps:=A5 zs) (by omega) hpo (by omega);rwa [show n*16=zs.length by omega] at this
  ·(have hvb':Eh xs=false:=by simpa using hvb);rw[GV hpt hvb'];intro o ho;cases ho
 ·have hpt':BO zs=false:=by simpa using hpt
  rw[Gh hpt'];intro o ho;cases ho
theorem Kl (zs:List Int) (xs:List AF):(BU zs xs).1.length<=200000:=by
 by_cases hpt:BO zs=true
 ·by_cases hvb:Eh xs=true
  ·by_cases hfr:Ae zs.length<((AA (lay xs) 256).length:Nat)
   ·rw[Ge hpt hvb hfr];exact Nat.zero_le _
   ·rw[EU hpt hvb hfr];have hnl:=D9 zs.length;have hn0:=(BS zs.length (FJ hpt)).2;have hlen:(CM (lay xs) (A5 zs)).length<=(AA (lay xs) 256).length:=Er (AC (lay xs) (A5 zs)) (AA (lay xs) 256) _ (Nat.le_refl _);have:=K5 zs (lay xs) (Ae zs.length).toNat (AC (lay xs) (A5 zs)) (CH (lay xs) (A5 zs)) (CM (lay xs) (A5 zs)) (by have:=Md (CH (lay xs) (A5 zs)) (Ae zs.length).toNat;omega) (by omega) 5;rw[Lb] at this;show (AO zs (Ae zs.length).toNat (lay xs) (A5 zs)).length<=200000;omega
  ·(have hvb':Eh xs=false:=by simpa using hvb);rw[GV hpt hvb'];exact Nat.zero_le _
 ·have hpt':BO zs=false:=by simpa using hpt
  rw[Gh hpt'];exact Nat.zero_le _
def Ap (F:Nat):List Int:=List.replicate (F*16) 0
theorem Ch (F:Nat):(Ap F).length=F*16:=by unfold Ap;simp
theorem FI (F i:Nat):(Ap F).getD i 0=0:=by
 unfold Ap;rw[List.getD_eq_getElem?_getD,List.getElem?_replicate];split<;>rfl
def An (xs:List AF) (fr:Int):List Int×Int :=
 if Eh xs=false then ([],1) else if fr<1\/512<fr then ([],2) else if (BU (Ap fr.toNat) xs).2≠0 then ([],3)
 else (Bu (Ap fr.toNat) (BU (Ap fr.toNat) xs).1,0)
theorem Jt (xs:List AF) (fr:Int):(An xs fr).1.length<=8192:=by
 unfold An;split
 ·exact Nat.zero_le _
 ·split
  ·exact Nat.zero_le _
  ·split
   ·exact Nat.zero_le _
   ·show (Bu _ _).length<=8192;rw[CI,Ch];omega
def DF (w:World) (r:List Int×Int) (e:Ending) (w':World):Prop :=
 ∃a c,e=.returned (.tuple #[.agg #[.slice a r.1.length c],.int .i64 r.2])/\A6 Aa w' w.heap.size (.slice a r.1.length c) r.1/\Below w.heap.size w w'
theorem Lt (w:World) (B:Nat):A6 Aa w B (.slice none 0 0) []:=⟨by simp[AE],.inl ⟨rfl,rfl⟩⟩
theorem C9.put {w:World} {g k:Nat} {zs:List Int} {x:Int} (h:C9 w g zs):C9 (w.setCell ⟨g,k,none⟩ (.int .u64 x)) g (zs.set k x):=by
 unfold C9 at h ⊢;rw[List.length_set];refine(World.rowIs.set h k (.int .u64 x)).congr (fun i hi=>?_);rw[List.getD_eq_getElem?_getD,List.getD_eq_getElem?_getD,List.getElem?_set];by_cases e:i=k
 ·rw[if_pos e,if_pos e.symm,if_pos (by omega)];rfl
 ·rw[if_neg e,if_neg (fun e2=>e e2.symm)]
theorem C9.tch {w w':World} {g:Nat} {zs:List Int} {S:Nat->Prop} (h:C9 w g zs) (hg:Aj S w w') (hn:¬S g):C9 w' g zs:=World.rowIs.of_block h (hg.block g h.lt hn)
theorem KZ {w:World} {b g c n:Nat} {xs:List Ay} (h:A6 Az w b (.slice (some ⟨g,0,none⟩) n c) xs) (i:Nat) (hi:i<xs.length):g<w.heap.size/\w.cell? ⟨g,i*4,none⟩=some (.int .i64 (AI Az xs i).kind)/\w.cell? ⟨g,i*4+1,none⟩=some (.int .i64 (AI Az xs i).a)/\w.cell? ⟨g,i*4+2,none⟩=some (.int .i64 (AI Az xs i).b)/\w.cell? ⟨g,i*4+3,none⟩=some (.int .u64 (AI Az xs i).word):=by
 obtain⟨a,c',e,h1⟩:=h.form;obtain⟨g',N,f,e2,_,hr,hN,hf⟩:=h1 (by omega);have hN':xs.length*4<=N:=hN;simp only[Value.slice.injEq] at e;obtain⟨e,_,_⟩:=e;rw[e2] at e;simp only[Option.some.injEq,Addr.mk.injEq,and_true] at e;subst e;have a0:f (i*4+0)=C8 Az xs i 0:=hf i hi 0 (by decide);have a1:f (i*4+1)=C8 Az xs i 1:=hf i hi 1 (by decide);have a2:f (i*4+2)=C8 Az xs i 2:=hf i hi 2 (by decide);have a3:f (i*4+3)=C8 Az xs i 3:=hf i hi 3 (by decide);exact⟨hr.lt,(hr.cell (by omega)).trans (congrArg some a0),(hr.cell (by omega)).trans (congrArg some a1),(hr.cell (by omega)).trans (congrArg some a2),(hr.cell (by omega)).trans (congrArg some a3)⟩
end Go.Proofs.YtnmhkgmmpkjjeaaGreat
namespace Go.Proofs.YtnmhkgmmpkjjeaaGreat
open Go.ChangeShapes Go.WideShapes Go.ChangeAt Go.RowKit
set_option linter.unusedVariables false
set_option maxRecDepth 100000
attribute [local go_sem ↓] Go.wp_at_zero Go.wp_at_succ
theorem NJ (w:World) (B:Nat):A6 Az w B (.slice none 0 0) []:=⟨by simp[AE],.inl ⟨rfl,rfl⟩⟩
theorem UR (m:Nat) (h:Ae m≠0):((m:Nat):Int)/16=Ae m:=by
 have:=(BS m h).1;omega
set_option maxHeartbeats 4000000 in
theorem Hy (gz:Nat) (zs:List Int) (cz:Nat) (a:Option Addr) (cap b:Nat) (xs:List AF) (w:World) (hzl:zs.length<=1048576) (hcc:zs.length<=cz) (hzr:∀i,0<=zs.getD i 0/\zs.getD i 0<2 ^ 64) (hz:At w gz zs) (hn:xs.length<=1048576) (hwf:∀i,i<xs.length->RY (AI A8 xs i)) (h:A6 A8 w b (.slice a xs.length cap) xs) : Calls Tryz.prog 25 #[.agg #[.slice (some ⟨gz,0,none⟩) zs.length cz],.slice a xs.length cap] w fun e w'=>CZ w (BU zs xs) e w':=by
 obtain⟨wb,hwb⟩:∃wb,wb=w.alloc (.cells #[.slice (some ⟨gz,0,none⟩) zs.length cz] 35):=⟨_,rfl⟩
 have hbb:Below w.heap.size w wb:=by rw[hwb];exact Ao
 have hzb:wb.heap.size=w.heap.size+1:=by rw[hwb];simp
 have q0:wb.cell? ⟨w.heap.size,0,none⟩=some (.slice (some ⟨gz,0,none⟩) zs.length cz):=by rw[hwb];simp[go_sem]
 have hpc:=Kc gz zs cz hzl hcc hzr wb (hz.below hbb hz.lt);unfold Ca at hpc;have HVS:Hid (∀wX,Below wb.heap.size wb wX->Calls Tryz.prog 39 #[.slice a xs.length cap] wX fun e w'=>e=.returned (.bool (Eh xs))/\Below wX.heap.size wX w'):=A3 <| fun wX hX=>KR a cap b xs wX hn hwf (h.below (hbb.trans (hX.mono (by omega))))
 have HH:Hid (∀wX,VS xs->Below wb.heap.size wb wX->Calls Tryz.prog 83 #[.slice a xs.length cap] wX fun e w'=>e=.returned (.pointer (some ⟨wX.heap.size,0,none⟩))/\Bw w' wX.heap.size (lay xs)/\Below wX.heap.size wX w'):=fun wX hv hX=>Mc a cap b xs wX hn hv (h.below (hbb.trans (hX.mono (by omega))))
 have HWB:Hid (wb=_):=hwb;have HBB:Hid (Below w.heap.size w wb):=hbb;have HZB:Hid (wb.heap.size=w.heap.size+1):=hzb;have HQ0:Hid (wb.cell? ⟨w.heap.size,0,none⟩=some (.slice (some ⟨gz,0,none⟩) zs.length cz)):=q0;have HCZ:Hid (At w gz zs):=hz;have N0:w.heap.size<wb.heap.size:=by omega
 have hpl:=DZ zs;clear hwb hbb hzb q0 h hwf;by_cases hpt:BO zs=true
 ·rw[hpt] at hpc;by_cases hvb:Eh xs=true
  ·rw[hvb] at HVS;have hvs:=VS.of_true hvb;have hnf:=FJ hpt;obtain⟨hnm,hn1⟩:=BS zs.length hnf;have hnl:=D9 zs.length;have hnq:=UR zs.length hnf;(obtain⟨n,hnn⟩:∃n:Nat,Ae zs.length=n:=⟨(Ae zs.length).toNat,by omega⟩);by_cases hfr:Ae zs.length<((AA (lay xs) 256).length:Nat)
   ·rw[Ge hpt hvb hfr];have dN:decide ((n:Int)<((AA (lay xs) 256).length:Int))=true:=decide_eq_true (by omega);have dN2:decide (n<(AA (lay xs) 256).length)=true:=decide_eq_true (by omega);(have pN:n<(AA (lay xs) 256).length:=by omega);rw[hnn] at hnq;clear hfr hnm hn1 hnl hnf hnn hpt hvb hzr hz;(go_enter Tryz.func25,Tryz.ntmps25);(go_wp2_with fail);rw[<- HWB.out];refine hpc.mono ?_;rintro e w1 ⟨ap,cp,rfl,hrp,hb1⟩;have hv:=HVS.out w1 hb1;have HB1:Hid (Below wb.heap.size wb w1):=hb1;clear hpc hrp hb1;(go_wp2_with fail);refine hv.mono ?_;rintro e w2 ⟨rfl,hb2⟩;have b2:Below wb.heap.size wb w2:=HB1.out.trans (hb2.mono HB1.out.size);have hh:=HH.out w2 hvs b2;have HB2:Hid (Below wb.heap.size wb w2):=b2;clear hv hb2 b2;(go_wp2_with fail);refine hh.mono ?_;rintro e w3 ⟨rfl,hl3,hb3⟩;have b3:Below wb.heap.size wb w3:=HB2.out.trans (hb3.mono HB2.out.size);have hse:=Lu _ _ w3 hl3;have HB3:Hid (Below wb.heap.size wb w3):=b3;clear hh hl3 hb3 b3;(go_wp2_with fail);refine hse.mono ?_;rintro e w4 ⟨gw,cw,rfl,hrw,hb4⟩;have b4:Below wb.heap.size wb w4:=HB3.out.trans (hb4.mono HB3.out.size);have m4:w4.cell? ⟨w.heap.size,0,none⟩=some (.slice (some ⟨gz,0,none⟩) zs.length cz):=(b4.cell (p:=⟨w.heap.size,0,none⟩) N0).trans HQ0.out;have HB4:Hid (Below w.heap.size w w4):=HBB.out.trans (b4.mono (by omega));clear hse hrw hb4 b4;(go_wp2_with fail);(go_ret2);exact⟨none,0,rfl,NJ _ _,HB4.out⟩
   ·rw[EU hpt hvb hfr];have dN:decide ((n:Int)<((AA (lay xs) 256).length:Int))=false:=decide_eq_false (by omega);have dN2:decide (n<(AA (lay xs) 256).length)=false:=decide_eq_false (by omega);(have pN:¬n<(AA (lay xs) 256).length:=by omega);(have HPO:Hid (BI n (A5 zs)):=A3 <| by rw[<- hnn];exact GK zs hnf);(have hT:(Ae zs.length).toNat=n:=by rw[hnn];rfl);have HNZ:Hid (zs.length=n*16/\0<n/\n<=512/\(AA (lay xs) 256).length<=n):=A3 <| ⟨by omega,by omega,by omega,by omega⟩;have HZR:Hid (∀i,0<=zs.getD i 0/\zs.getD i 0<18446744073709551616):=hzr;rw[hT,<- Lb];rw[hnn] at hnq;(obtain⟨ps,hps⟩:∃ps,A5 zs=ps:=⟨_,rfl⟩);rw[hps] at HPO hpl hpc ⊢;(obtain⟨XX,hXX⟩:∃XX,Gy zs (lay xs) n (AC (lay xs) ps) (CH (lay xs) ps) (CM (lay xs) ps) 5=XX:=⟨_,rfl⟩);rw[hXX];have HXX:Hid (Gy zs (lay xs) n (AC (lay xs) ps) (CH (lay xs) ps) (CM (lay xs) ps) 5=XX):=hXX;clear hXX;clear hfr hnm hn1 hnl hnf hnn hpt hvb hzr hz hT hps;(go_enter Tryz.func25,Tryz.ntmps25);(go_wp2_with fail);rw[<- HWB.out];refine hpc.mono ?_;rintro e w1 ⟨ap,cp,rfl,hrp,hb1⟩;have hv:=HVS.out w1 hb1;have HB1:Hid (Below wb.heap.size wb w1):=hb1;have HR1:Hid (Ab w1 wb.heap.size (.slice ap ps.length cp) ps):=hrp;clear hpc hrp hb1;(go_wp2_with fail);refine hv.mono ?_;rintro e w2 ⟨rfl,hb2⟩;have b2:Below wb.heap.size wb w2:=HB1.out.trans (hb2.mono HB1.out.size);have hh:=HH.out w2 hvs b2;have HB2:Hid (Below wb.heap.size wb w2):=b2;have HR2:Hid (Ab w2 wb.heap.size (.slice ap ps.length cp) ps):=HR1.out.below hb2;clear hv hb2 b2;(go_wp2_with fail);refine hh.mono ?_;rintro e w3 ⟨rfl,hl3,hb3⟩;have b3:Below wb.heap.size wb w3:=HB2.out.trans (hb3.mono HB2.out.size);have hse:=Lu _ _ w3 hl3;have HB3:Hid (Below wb.heap.size wb w3):=b3;have HR3:Hid (Ab w3 wb.heap.size (.slice ap ps.length cp) ps):=HR2.out.below hb3;have HL3:Hid (Bw w3 w2.heap.size (lay xs)):=hl3;clear hh hl3 hb3 b3;(go_wp2_with fail);refine hse.mono ?_;rintro e w4 ⟨gw,cw,rfl,hrw,hb4⟩;have b4:Below wb.heap.size wb w4:=HB3.out.trans (hb4.mono HB3.out.size);have m4:w4.cell? ⟨w.heap.size,0,none⟩=some (.slice (some ⟨gz,0,none⟩) zs.length cz):=(b4.cell (p:=⟨w.heap.size,0,none⟩) N0).trans HQ0.out;have HB4:Hid (Below w.heap.size w w4):=HBB.out.trans (b4.mono (by omega));have HR4:Hid (Ab w4 wb.heap.size (.slice ap ps.length cp) ps):=HR3.out.below hb4;have HL4:Hid (Bw w4 w2.heap.size (lay xs)):=HL3.out.below hb4;have HW4:Hid (A6 CP w4 w3.heap.size (.slice (some ⟨gw,0,none⟩) (AA (lay xs) 256).length cw) (AA (lay xs) 256)):=hrw;(obtain⟨wP,hwP⟩:∃wP,wP=(w4.alloc (.map #[] 0)).alloc (.cells #[.slice (some ⟨gz,0,none⟩) zs.length cz,.pointer (some ⟨w2.heap.size,0,none⟩),.map (some w4.heap.size),.slice none 0 0,.slice none 0 0] 162):=⟨_,rfl⟩);(have hbP:Below w4.heap.size w4 wP:=by rw[hwP];exact((Below.refl _ _).alloc (Nat.le_refl _) _).alloc (by simp) _);(have hzP:wP.heap.size=w4.heap.size+2:=by rw[hwP];simp);have hl4:=HL4.out.lt;have hw4:w.heap.size<=w4.heap.size:=HB4.out.size;have hgz:=HCZ.out.lt;have hN:=HNZ.out;have hsep:SF wP (w4.heap.size+1) gz w2.heap.size w4.heap.size:=⟨by omega,by omega,by omega,by omega,by omega,by omega,by omega,by omega,by omega⟩;have hpst:IS wP (w4.heap.size+1) gz cz w2.heap.size w4.heap.size zs (lay xs) []:=by
     refine⟨by omega,by rw[hwP];simp[go_sem],by rw[hwP];simp[go_sem],by rw[hwP];simp[go_sem],HCZ.out.below (HB4.out.trans (hbP.mono hw4)) hgz,HL4.out.below hbP,?_⟩;have hm:=CU.new w4;refine hm.of_block ?_;rw[hwP];exact Below.heap_alloc _ _ _ (by simp)
    have hset:=PG (w4.heap.size+1) gz cz w2.heap.size w4.heap.size zs (lay xs) n ps ap cp wb.heap.size gw cw w3.heap.size wP hsep hpst (by rw[hwP];simp[go_sem]) (by rw[hwP];simp[go_sem]) (fun i=>by rw[hwP];simp[go_sem]) hN.1 hN.2.1 hN.2.2.1 HPO.out (by omega) hN.2.2.2 (HR4.out.below hbP) (fun k hk hh=>by
     have h9:=World.ownsRow.lt HR4.out k (by rw[CC];exact hk)
     omega) (HW4.out.below hbP) (fun hh=>by
     have h9:=(HW4.out.own gw rfl).2
     omega)
    have HPG:Hid (∀w5 aR cR aC cC,SS wP w5 (w4.heap.size+1) gz cz w2.heap.size w4.heap.size zs (lay xs) (BG (AC (lay xs) ps) (CM (lay xs) ps)) aR cR (DR (CH (lay xs) ps) n) aC cC (CM (lay xs) ps)->Calls Tryz.prog 86 #[.pointer (some ⟨w4.heap.size+1,0,none⟩)] w5 fun r w'=>∃a c,r=.returned (.slice a XX.length c)/\A6 Az w' w5.heap.size (.slice a XX.length c) XX/\Below w5.heap.size w5 w'):=A3 <| fun w5 aR cR aC cC hS=>by
     have h9:=Nd w5 _ gz cz _ _ zs (lay xs) n _ _ _ aR aC cR _ cC _ (RZ hvs hN.2.1 hN.2.2.1 hN.1 HZR.out HPO.out hN.2.2.2 hS);rw[HXX.out] at h9;exact h9
    have HWP:Hid (wP=_):=hwP;have HBP:Hid (Below w.heap.size w wP):=HB4.out.trans (hbP.mono hw4);have hmk:(Instr.makeMap 158 none).run Tryz.prog w4=.ok (.map (some w4.heap.size)) (w4.alloc (.map #[] 0)):=rfl;clear hse hrw hb4 b4 hwP hbP hzP hsep hpst hN HH HVS;(go_wp2_with fail);rw[<- HWP.out];refine hset.mono ?_;rintro e w5 ⟨rfl,aR,cR,aC,cC,hS⟩;have hpg:=HPG.out w5 aR cR aC cC hS;have HB5:Hid (Below w.heap.size w w5):=A3 <| ((Aj.of_below (S:=fun k=>w.heap.size<=k) HBP.out).then hS.tch (fun k hk hh=>by rcases hh with e|e<;>omega)).below (fun k hk hh=>by omega);clear hset hS HPG;(go_wp2_with fail);refine hpg.mono ?_;rintro e w6 ⟨a6,c6,rfl,hr6,hb6⟩;clear hpg;have HF:Hid (CZ w (XX,0) (.returned (.tuple #[.slice a6 XX.length c6,.int .i64 0])) w6):=A3 <| ⟨a6,c6,rfl,hr6.rebase HB5.out.size,HB5.out.trans (hb6.mono HB5.out.size)⟩;clear hr6 hb6;(go_wp2_with fail);(go_ret2);exact HF.out
  ·(have hvb':Eh xs=false:=by simpa using hvb);rw[GV hpt hvb'];rw[hvb'] at HVS;clear hvb hvb' hpt hzr hz HH;(go_enter Tryz.func25,Tryz.ntmps25);(go_wp2_with fail);rw[<- HWB.out];refine hpc.mono ?_;rintro e w1 ⟨ap,cp,rfl,hrp,hb1⟩;have hv:=HVS.out w1 hb1;have HB1:Hid (Below wb.heap.size wb w1):=hb1;clear hpc hrp hb1;(go_wp2_with fail);refine hv.mono ?_;rintro e w2 ⟨rfl,hb2⟩;have HB2:Hid (Below w.heap.size w w2):=HBB.out.trans ((HB1.out.trans (hb2.mono HB1.out.size)).mono (by omega));clear hv hb2;(go_wp2_with fail);(go_ret2);exact⟨none,0,rfl,NJ _ _,HB2.out⟩
 ·have hpt':BO zs=false:=by simpa using hpt
  rw[Gh hpt'];rw[hpt'] at hpc;clear hpt hpt' hzr hz HH HVS;go_enter Tryz.func25,Tryz.ntmps25
  go_wp2_with fail
  rw[<- HWB.out];refine hpc.mono ?_;rintro e w1 ⟨ap,cp,rfl,hrp,hb1⟩;have HB1:Hid (Below w.heap.size w w1):=HBB.out.trans (hb1.mono (by omega));clear hpc hrp hb1;go_wp2_with fail
  go_ret2
  exact⟨none,0,rfl,NJ _ _,HB1.out⟩
end Go.Proofs.YtnmhkgmmpkjjeaaGreat
