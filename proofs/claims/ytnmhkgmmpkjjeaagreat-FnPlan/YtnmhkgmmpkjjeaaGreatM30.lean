import Derived.Test.YtnmhkgmmpkjjeaaGreatM27
import Derived.Test.YtnmhkgmmpkjjeaaGreatM29
namespace Go.Proofs.YtnmhkgmmpkjjeaaGreat
open ChangeShapes WideShapes ChangeAt RowKit Proofs.Tryz
set_option linter.all false
set_option maxRecDepth 100000
set_option maxHeartbeats 4000000
section
attribute [local go_sem ↓] wp_at_zero wp_at_succ
theorem TI{xs:List AE}(h:VS xs)(p k:Nat)(hp:p%16=0)(hk:k<16)(hs:(Dz xs (p:Nat)).s=16):(Dz xs ((p+k:Nat):Int)).s=16:=by
 cases hf:xs.find? (fun e=>ID e (p:Nat)) with
 | none =>
  unfold Dz at hs;rw[hf] at hs;cases hs
 | some e =>
  have hm:=List.mem_of_find?_eq_some hf;obtain⟨j,hj,he⟩:=List.getElem_of_mem hm;have he':AQ AA xs j=e:=by
   unfold AQ;rw[List.getD_eq_getElem?_getD,List.getElem?_eq_getElem hj,he];rfl
  unfold Dz at hs;rw[hf] at hs;have hs':(if DO e (p:Nat) then (16:Int) else 1)=16:=hs;have hb:DO e (p:Nat)=true:=by
   cases hbb:DO e (p:Nat)
   ·rw[hbb] at hs';cases hs'
   ·rfl
  have hb2:=hb;unfold DO at hb2;rw[Bool.and_eq_true,decide_eq_true_eq] at hb2;obtain⟨hh,b1,b2,b3⟩:=hb2;have e0:((p:Nat):Int)%16=0:=by omega
  rw[e0] at b1 b2 b3;have hat:Dz xs ((p+k:Nat):Int)=IM (AQ AA xs j) ((p+k:Nat):Int):=by
   refine Nd _ xs j hj (fun i hi=>?_) ?_
   ·have:=h.lt i j hi hj;rw[he'] at this;unfold ID;exact decide_eq_false (by omega)
   ·rw[he'];unfold ID;exact decide_eq_true (by omega)
  rw[hat,he'];have hb3:DO e ((p+k:Nat):Int)=true:=by
   unfold DO;rw[Bool.and_eq_true,decide_eq_true_eq];(have e1:((p+k:Nat):Int)%16=k:=by omega);rw[e1];refine⟨hh,by omega,by omega,?_⟩;rw[show e.out+(((p+k:Nat):Int)-(k:Int))-e.page=e.out+((p:Int)-0)-e.page by omega];exact b3
  show (if DO e ((p+k:Nat):Int) then (16:Int) else 1)=16;rw[hb3];rfl
theorem Yn{xs:List AE}(h:VS xs)(p:Nat)(hp:p%16=0)(hp2:p+16<=4096)(hs:(lay xs p).s=16):nd (lay xs) 3 p=false:=by
 rw[JY xs p (by omega)] at hs;unfold nd;have e3:decide ((3:Nat)=1)=false:=rfl;rw[e3,Bool.false_or,List.any_eq_false];intro k hk;have hk':k<16:=List.mem_range.1 hk;unfold hB;rw[JY xs (p+k) (by omega),TI h p k hp hk' hs];simp
theorem Hq{H:Nat->Ht}{n:Nat}{ps:List P3}(hn:0<n)(h:Bc n ps)(hw:(AJ H 256).length<=n){q:P3}(hq:q∈AF H ps++Cd H ps):∃F lv pg:Nat,q=⟨F,lv,pg⟩/\1<=lv/\lv<=3/\pg+Ga lv<=4096/\nd H lv pg=true/\pg%Ga lv=0/\F<n:=by
 rcases List.mem_append.1 hq with hq|hq
 ·obtain⟨h1,h2,h3⟩:=Dh h hq;have hf:=h.fr (by omega) (BB.1 hq).1;obtain⟨c1,c2,c3,c4,_,c6⟩:=BY h1;refine⟨q.fr.toNat,q.lv.toNat,q.pg.toNat,?_,c1,c2,c3,c4,c6,by omega⟩;obtain⟨a,b,c⟩:=q;simp only at h2 h3 hf ⊢;rw[h2,h3];simp only[P3.mk.injEq,and_true];omega
 ·obtain⟨j,hj,hj2,h1,h2,_,F,hF,hF2⟩:=Db hn h hw _ (Nat.le_refl _) q hq;obtain⟨c1,c2,c3,c4,_,c6⟩:=BY (List.getElem_mem hj2);refine⟨F,((AJ H 256)[j]).1,((AJ H 256)[j]).2,?_,c1,c2,c3,c4,c6,hF2⟩;obtain⟨a,b,c⟩:=q;simp only at h1 h2 hF;rw[h1,h2,hF]
theorem Yg{xs:List AE}{zs:List Int}{n:Nat}{ps:List P3}(hv:VS xs)(hn:0<n)(hn2:n<=512)(hz:zs.length=n*16)(h:Bc n ps)(hw:(AJ (lay xs) 256).length<=n):Tq zs (lay xs) (AF (lay xs) ps) (Cd (lay xs) ps):=by
 refine⟨⟨fun q hq=>?_,fun p hp hs=>?_,fun p=>?_⟩,Ry (lay xs) (by omega) h,fun q hq=>?_,by omega,by omega⟩
 ·obtain⟨F,lv,pg,rfl,_⟩:=Hq hn h hw hq;exact Int.natCast_nonneg F
 ·refine Int.not_le.1 (fun h0=>?_);obtain⟨q,hq,e1,e2,_⟩:=Co h0;obtain⟨F,lv,pg,rfl,l1,l3,lp,hnd,hmod,_⟩:=Hq hn h hw hq;have e1':lv=3:=by have:(lv:Int)=3:=e1;omega
  have e2':pg=p:=by have:(pg:Int)=(p:Int):=e2;omega
  subst e1' e2';have t3:Ga 3=16:=rfl;rw[t3] at lp hmod;rw[Yn hv pg hmod lp hs] at hnd;cases hnd
 ·refine Int.not_le.1 (fun h0=>?_);obtain⟨q,hq,e1,e2,_⟩:=Co h0;obtain⟨F,lv,pg,rfl,l1,l3,_⟩:=Hq hn h hw hq;have:(lv:Int)=4:=e1;omega
 ·obtain⟨F,lv,pg,rfl,_,_,_,_,_,hF⟩:=Hq hn h hw (List.mem_append_left _ hq);refine⟨Int.natCast_nonneg F,?_⟩;show (F:Int)*16+16<=_;omega
theorem ST{xs:List AE}{zs:List Int}{n:Nat}{ps:List P3}{w0 w:World}{gp gz cz gl M cR cC:Nat}{aR aC:Option Addr}(hv:VS xs)(hn:0<n)(hn2:n<=512)(hz:zs.length=n*16)(hzr:∀i,0<=zs.getD i 0/\zs.getD i 0<18446744073709551616)(h:Bc n ps)(hw:(AJ (lay xs) 256).length<=n)(hs:SS w0 w gp gz cz gl M zs (lay xs) (BZ (AF (lay xs) ps) (Cd (lay xs) ps)) aR cR (Dj (Cm (lay xs) ps) n) aC cC (Cd (lay xs) ps)):RM w gp gz cz gl M zs (lay xs) n (AF (lay xs) ps) (Cm (lay xs) ps) (Cd (lay xs) ps) aR aC cR (w0.heap.size+1) cC (w0.heap.size+1):=by
 refine⟨hs.pst,Yg hv hn hn2 hz h hw,hzr,by have:=Oj (Cm (lay xs) ps) n;omega,hs.ret.cell,hs.ret.row,?_,fun q hq=>?_,hs.c3,hs.crow⟩
 ·have:=FD (AF (lay xs) ps) (AJ (lay xs) 256) _ (Nat.le_refl _);have:(Cd (lay xs) ps).length<=(AJ (lay xs) 256).length:=this;omega
 ·obtain⟨F,lv,pg,rfl,l1,l3,lp,_,_,hF⟩:=Hq hn h hw (List.mem_append_right _ hq);exact⟨F,lv,pg,rfl,l1,l3,lp,by omega⟩
theorem Mk(zs:List Int)(n:Nat)(H:Nat->Ht)(ps:List P3):JF zs H n (AF H ps) (Cm H ps) (Cd H ps) 5=Ao zs n H ps:=by
 rw[Ui];rfl
end
def Eg (n:Nat) (l:List BP):Prop:=∀o∈l,o.kind=1->0<=o.a/\o.a<n
theorem Eg.app{n:Nat}{l m:List BP}(h1:Eg n l)(h2:Eg n m):Eg n (l++m):=fun o ho=>(List.mem_append.1 ho).elim (h1 o) (h2 o)
theorem Eg.seal{n:Nat}{l:List BP}(h:Eg n l):Eg n (BU l):=by
 unfold BU;split
 ·intro o ho;cases ho
 ·refine h.app (fun o ho hk=>?_);rw[List.mem_singleton] at ho;subst ho;cases hk
theorem OC{n:Nat}{ps:List P3}(H:Nat->Ht)(hn:0<n)(h:Bc n ps){e:En}(he:e∈Bo H ps):0<=e.ad/\e.ad<(n*16:Nat):=by
 obtain⟨page,lv,hp,h1,h3,hmod,e1,e2,h0,e3⟩:=JK he;have hf:=O9 H hn h lv (page-page%(Ay lv*16):Nat);rw[e3];omega
theorem UN{xs:List AE}{zs:List Int}{n:Nat}{ps:List P3}(hn:0<n)(h:Bc n ps)(hw:(AJ (lay xs) 256).length<=n):Eg (n*16) (Ao zs n (lay xs) ps):=by
 unfold Ao;refine Eg.app (Eg.seal (fun o ho hk=>?_)) (Eg.app (Eg.seal (fun o ho hk=>?_)) (Eg.app (fun o ho hk=>?_) (Eg.app (Eg.seal (fun o ho hk=>?_)) (Eg.seal (fun o ho hk=>?_)))))
 ·unfold Ac at ho;obtain⟨e,he,rfl⟩:=List.mem_map.1 ho;exact OC (lay xs) hn h (List.mem_filter.1 he).1
 ·unfold B8 at ho;obtain⟨e,he,rfl⟩:=List.mem_map.1 ho;cases hk
 ·unfold As at ho;obtain⟨e,he,rfl⟩:=List.mem_map.1 ho;cases hk
 ·unfold AU at ho;obtain⟨t,ht,ho⟩:=List.mem_flatMap.1 ho;unfold B6 at ho;obtain⟨i,hi,rfl⟩:=List.mem_map.1 ho;obtain⟨F,lv,pg,rfl,_,_,_,_,_,hF⟩:=Hq hn h hw (List.mem_append_right _ ht);have:=List.mem_range.1 hi;show 0<=(F:Int)*16+(i:Nat)/\(F:Int)*16+(i:Nat)<_;omega
 ·unfold Ai at ho;obtain⟨e,he,rfl⟩:=List.mem_map.1 ho;exact OC (lay xs) hn h (List.mem_filter.1 he).1
theorem U6(zs:List Int)(xs:List AE):Eg zs.length (Bk zs xs).1:=by
 by_cases hpt:Be zs=true
 ·by_cases hvb:FP xs=true
  ·by_cases hfr:An zs.length<((AJ (lay xs) 256).length:Nat)
   ·rw[Ij hpt hvb hfr];intro o ho;cases ho
   ·rw[FY hpt hvb hfr];have hnf:=F5 hpt;obtain⟨hnm,hn1⟩:=Bz zs.length hnf;(obtain⟨n,hnn⟩:∃n:Nat,An zs.length=n:=⟨(An zs.length).toNat,by omega⟩);(have hpo:Bc n (A7 zs):=by rw[<- hnn];exact Gr zs hnf);(have hT:(An zs.length).toNat=n:=by rw[hnn];rfl);rw[hT];have:=UN (xs:=xs) (zs:=zs) (n:=n) (ps:=A7 zs) (by omega) hpo (by omega);rwa [show n*16=zs.length by omega] at this
  ·(have hvb':FP xs=false:=by simpa using hvb);rw[J7 hpt hvb'];intro o ho;cases ho
 ·have hpt':Be zs=false:=by simpa using hpt
  rw[Is hpt'];intro o ho;cases ho
theorem Q2(zs:List Int)(xs:List AE):(Bk zs xs).1.length<=200000:=by
 by_cases hpt:Be zs=true
 ·by_cases hvb:FP xs=true
  ·by_cases hfr:An zs.length<((AJ (lay xs) 256).length:Nat)
   ·rw[Ij hpt hvb hfr];exact Nat.zero_le _
   ·rw[FY hpt hvb hfr];have hnl:=Dv zs.length;have hn0:=(Bz zs.length (F5 hpt)).2;have hlen:(Cd (lay xs) (A7 zs)).length<=(AJ (lay xs) 256).length:=FD (AF (lay xs) (A7 zs)) (AJ (lay xs) 256) _ (Nat.le_refl _);have:=LI zs (lay xs) (An zs.length).toNat (AF (lay xs) (A7 zs)) (Cm (lay xs) (A7 zs)) (Cd (lay xs) (A7 zs)) (by have:=Oj (Cm (lay xs) (A7 zs)) (An zs.length).toNat;omega) (by omega) 5;rw[Mk] at this;show (Ao zs (An zs.length).toNat (lay xs) (A7 zs)).length<=200000;omega
  ·(have hvb':FP xs=false:=by simpa using hvb);rw[J7 hpt hvb'];exact Nat.zero_le _
 ·have hpt':Be zs=false:=by simpa using hpt
  rw[Is hpt'];exact Nat.zero_le _
def Bs (F:Nat):List Int:=List.replicate (F*16) 0
theorem Fx(F:Nat):(Bs F).length=F*16:=by unfold Bs;simp
theorem Gp(F i:Nat):(Bs F).getD i 0=0:=by
 unfold Bs;rw[List.getD_eq_getElem?_getD,List.getElem?_replicate];split<;>rfl
def EW (xs:List AE) (fr:Int):List Int×Int :=
 if FP xs=false then ([],1) else if fr<1\/512<fr then ([],2) else if (Bk (Bs fr.toNat) xs).2≠0 then ([],3)
 else (D8 (Bs fr.toNat) (Bk (Bs fr.toNat) xs).1,0)
theorem Qv(xs:List AE)(fr:Int):(EW xs fr).1.length<=8192:=by
 unfold EW;split
 ·exact Nat.zero_le _
 ·split
  ·exact Nat.zero_le _
  ·split
   ·exact Nat.zero_le _
   ·show (D8 _ _).length<=8192;rw[DB,Fx];omega
def Hj (w:World) (r:List Int×Int) (e:Ending) (w':World):Prop :=
 ∃a c,e=.returned (.tuple #[.agg #[.slice a r.1.length c],.int .i64 r.2])/\A8 AY w' w.heap.size (.slice a r.1.length c) r.1/\Bl w w'
theorem Te(w:World)(B:Nat):A8 AY w B (.slice none 0 0) []:=⟨by simp[AK],.inl ⟨rfl,rfl⟩⟩
theorem Ck.put{w:World}{g k:Nat}{zs:List Int}{x:Int}(h:Ck w g zs):Ck (w.setCell ⟨g,k,none⟩ (.int .u64 x)) g (zs.set k x):=by
 unfold Ck at h ⊢;rw[List.length_set];refine(World.rowIs.set h k (.int .u64 x)).congr (fun i hi=>?_);rw[List.getD_eq_getElem?_getD,List.getD_eq_getElem?_getD,List.getElem?_set];by_cases e:i=k
 ·rw[if_pos e,if_pos e.symm,if_pos (by omega)];rfl
 ·rw[if_neg e,if_neg (fun e2=>e e2.symm)]
theorem Ck.tch{w w':World}{g:Nat}{zs:List Int}{S:Nat->Prop}(h:Ck w g zs)(hg:BF S w w')(hn:¬S g):Ck w' g zs:=World.rowIs.of_block h (hg.block g h.lt hn)
theorem Oz{w:World}{b g c n:Nat}{xs:List BP}(h:A8 BW w b (.slice (some ⟨g,0,none⟩) n c) xs)(i:Nat)(hi:i<xs.length):g<w.heap.size/\w.cell? ⟨g,i*4,none⟩=some (.int .i64 (AQ BW xs i).kind)/\w.cell? ⟨g,i*4+1,none⟩=some (.int .i64 (AQ BW xs i).a)/\w.cell? ⟨g,i*4+2,none⟩=some (.int .i64 (AQ BW xs i).b)/\w.cell? ⟨g,i*4+3,none⟩=some (.int .u64 (AQ BW xs i).word):=by
 obtain⟨a,c',e,h1⟩:=h.form;obtain⟨g',N,f,e2,_,hr,hN,hf⟩:=h1 (by omega);have hN':xs.length*4<=N:=hN;simp only[Value.slice.injEq] at e;obtain⟨e,_,_⟩:=e;rw[e2] at e;simp only[Option.some.injEq,Addr.mk.injEq,and_true] at e;subst e;have a0:f (i*4+0)=CM BW xs i 0:=hf i hi 0 (by decide);have a1:f (i*4+1)=CM BW xs i 1:=hf i hi 1 (by decide);have a2:f (i*4+2)=CM BW xs i 2:=hf i hi 2 (by decide);have a3:f (i*4+3)=CM BW xs i 3:=hf i hi 3 (by decide);exact⟨hr.lt,(hr.cell (by omega)).trans (congrArg some a0),(hr.cell (by omega)).trans (congrArg some a1),(hr.cell (by omega)).trans (congrArg some a2),(hr.cell (by omega)).trans (congrArg some a3)⟩
section
attribute [local go_sem ↓] wp_at_zero wp_at_succ
theorem O5(w:World)(B:Nat):A8 BW w B (.slice none 0 0) []:=⟨by simp[AK],.inl ⟨rfl,rfl⟩⟩
theorem Wv(m:Nat)(h:An m≠0):((m:Nat):Int)/16=An m:=by
 have:=(Bz m h).1;omega
theorem Nq(gz:Nat)(zs:List Int)(cz:Nat)(a:Option Addr)(cap b:Nat)(xs:List AE)(w:World)(hzl:zs.length<=1048576)(hcc:zs.length<=cz)(hzr:∀i,0<=zs.getD i 0/\zs.getD i 0<2 ^ 64)(hz:BQ w gz zs)(hn:xs.length<=1048576)(hwf:∀i,i<xs.length->Qe (AQ AA xs i))(h:A8 AA w b (.slice a xs.length cap) xs):Calls prog 25 #[.agg #[.slice (some ⟨gz,0,none⟩) zs.length cz],.slice a xs.length cap] w fun e w'=>DT w (Bk zs xs) e w':=by
 obtain⟨wb,hwb⟩:∃wb,wb=w.alloc (.cells #[.slice (some ⟨gz,0,none⟩) zs.length cz] 35):=⟨_,rfl⟩
 have hbb:Bl w wb:=by rw[hwb];exact AO
 have hzb:wb.heap.size=w.heap.size+1:=by rw[hwb];simp
 have q0:wb.cell? ⟨w.heap.size,0,none⟩=some (.slice (some ⟨gz,0,none⟩) zs.length cz):=by rw[hwb];simp[go_sem]
 have hpc:=H8 gz zs cz hzl hcc hzr wb (hz.below hbb hz.lt);unfold CI at hpc;have HVS:Hid (∀wX,Bl wb wX->Calls prog 39 #[.slice a xs.length cap] wX (AM wX (.bool (FP xs)))):=A9 <| fun wX hX=>QO a cap b xs wX hn hwf (h.below (hbb.trans (hX.mono (by omega))))
 have HH:Hid (∀wX,VS xs->Bl wb wX->Calls prog 83 #[.slice a xs.length cap] wX fun e w'=>e=.returned (.pointer (some ⟨wX.heap.size,0,none⟩))/\CZ w' wX.heap.size (lay xs)/\Bl wX w'):=fun wX hv hX=>Np a cap b xs wX hn hv (h.below (hbb.trans (hX.mono (by omega))))
 have HWB:=A5 hwb;have HBB:=A5 hbb;have HQ0:=A5 q0;have HCZ:=A5 hz;have N0:w.heap.size<wb.heap.size:=by omega
 have hpl:=DD zs;clear hwb hbb hzb q0 h hwf;by_cases hpt:Be zs=true
 ·rw[hpt] at hpc;by_cases hvb:FP xs=true
  ·rw[hvb] at HVS;have hvs:=VS.of_true hvb;have hnf:=F5 hpt;obtain⟨hnm,hn1⟩:=Bz zs.length hnf;have hnl:=Dv zs.length;have hnq:=Wv zs.length hnf;(obtain⟨n,hnn⟩:∃n:Nat,An zs.length=n:=⟨(An zs.length).toNat,by omega⟩);by_cases hfr:An zs.length<((AJ (lay xs) 256).length:Nat)
   ·rw[Ij hpt hvb hfr];(have pN:n<(AJ (lay xs) 256).length:=by omega);rw[hnn] at hnq;clear hfr hnm hn1 hnl hnf hnn hpt hvb hzr hz;(go_enter func25,ntmps25);(go_wp2_with fail);rw[<- HWB.out];refine hpc.mono ?_;rintro e w1 ⟨ap,cp,rfl,hrp,hb1⟩;have hv:=HVS.out w1 hb1;have HB1:=A5 hb1;clear hpc hrp hb1;(go_wp2_with fail);refine hv.mono ?_;rintro e w2 ⟨rfl,hb2⟩;have b2:Bl wb w2:=Ab HB1.out hb2;have hh:=HH.out w2 hvs b2;have HB2:=A5 b2;clear hv hb2 b2;(go_wp2_with fail);refine hh.mono ?_;rintro e w3 ⟨rfl,hl3,hb3⟩;have b3:Bl wb w3:=Ab HB2.out hb3;have hse:=MY _ _ w3 hl3;have HB3:=A5 b3;clear hh hl3 hb3 b3;(go_wp2_with fail);refine hse.mono ?_;rintro e w4 ⟨gw,cw,rfl,hrw,hb4⟩;have b4:Bl wb w4:=Ab HB3.out hb4;have m4:w4.cell? ⟨w.heap.size,0,none⟩=some (.slice (some ⟨gz,0,none⟩) zs.length cz):=(b4.cell (p:=⟨w.heap.size,0,none⟩) N0).trans HQ0.out;have HB4:Hid (Bl w w4):=HBB.out.trans (b4.mono (by omega));clear hse hrw hb4 b4;(go_wp2_with fail);(go_ret2);exact⟨none,0,rfl,O5 _ _,HB4.out⟩
   ·rw[FY hpt hvb hfr];(have pN:¬n<(AJ (lay xs) 256).length:=by omega);(have HPO:Hid (Bc n (A7 zs)):=A9 <| by rw[<- hnn];exact Gr zs hnf);(have hT:(An zs.length).toNat=n:=by rw[hnn];rfl);have HNZ:Hid (zs.length=n*16/\0<n/\n<=512/\(AJ (lay xs) 256).length<=n):=A9 <| ⟨by omega,by omega,by omega,by omega⟩;have HZR:=A5 hzr;rw[hT,<- Mk];rw[hnn] at hnq;(obtain⟨ps,hps⟩:∃ps,A7 zs=ps:=⟨_,rfl⟩);rw[hps] at HPO hpl hpc ⊢;(obtain⟨XX,hXX⟩:∃XX,JF zs (lay xs) n (AF (lay xs) ps) (Cm (lay xs) ps) (Cd (lay xs) ps) 5=XX:=⟨_,rfl⟩);rw[hXX];have HXX:=A5 hXX;clear hXX;clear hfr hnm hn1 hnl hnf hnn hpt hvb hzr hz hT hps;(go_enter func25,ntmps25);(go_wp2_with fail);rw[<- HWB.out];refine hpc.mono ?_;rintro e w1 ⟨ap,cp,rfl,hrp,hb1⟩;have hv:=HVS.out w1 hb1;have HB1:=A5 hb1;have HR1:=A5 hrp;clear hpc hrp hb1;(go_wp2_with fail);refine hv.mono ?_;rintro e w2 ⟨rfl,hb2⟩;have b2:Bl wb w2:=Ab HB1.out hb2;have hh:=HH.out w2 hvs b2;have HB2:=A5 b2;have HR2:Hid (BE w2 wb.heap.size (.slice ap ps.length cp) ps):=HR1.out.below hb2;clear hv hb2 b2;(go_wp2_with fail);refine hh.mono ?_;rintro e w3 ⟨rfl,hl3,hb3⟩;have b3:Bl wb w3:=Ab HB2.out hb3;have hse:=MY _ _ w3 hl3;have HB3:=A5 b3;have HR3:Hid (BE w3 wb.heap.size (.slice ap ps.length cp) ps):=HR2.out.below hb3;have HL3:=A5 hl3;clear hh hl3 hb3 b3;(go_wp2_with fail);refine hse.mono ?_;rintro e w4 ⟨gw,cw,rfl,hrw,hb4⟩;have b4:Bl wb w4:=Ab HB3.out hb4;have m4:w4.cell? ⟨w.heap.size,0,none⟩=some (.slice (some ⟨gz,0,none⟩) zs.length cz):=(b4.cell (p:=⟨w.heap.size,0,none⟩) N0).trans HQ0.out;have HB4:Hid (Bl w w4):=HBB.out.trans (b4.mono (by omega));have HR4:Hid (BE w4 wb.heap.size (.slice ap ps.length cp) ps):=HR3.out.below hb4;have HL4:Hid (CZ w4 w2.heap.size (lay xs)):=HL3.out.below hb4;have HW4:=A5 hrw;(obtain⟨wP,hwP⟩:∃wP,wP=(w4.alloc (.map #[] 0)).alloc (.cells #[.slice (some ⟨gz,0,none⟩) zs.length cz,.pointer (some ⟨w2.heap.size,0,none⟩),.map (some w4.heap.size),.slice none 0 0,.slice none 0 0] 162):=⟨_,rfl⟩);(have hbP:Bl w4 wP:=by rw[hwP];exact AO.alloc (by simp) _);(have hzP:wP.heap.size=w4.heap.size+2:=by rw[hwP];simp);have hl4:=HL4.out.lt;have hw4:w.heap.size<=w4.heap.size:=HB4.out.size;have hgz:=HCZ.out.lt;have hN:=HNZ.out;have hsep:VD wP (w4.heap.size+1) gz w2.heap.size w4.heap.size:=⟨by omega,by omega,by omega,by omega,by omega,by omega,by omega,by omega,by omega⟩;have hpst:Io wP (w4.heap.size+1) gz cz w2.heap.size w4.heap.size zs (lay xs) []:=by
     refine⟨by omega,by rw[hwP];simp[go_sem],by rw[hwP];simp[go_sem],by rw[hwP];simp[go_sem],HCZ.out.below (HB4.out.trans (hbP.mono hw4)) hgz,HL4.out.below hbP,?_⟩;have hm:=Cw.new w4;refine hm.of_block ?_;rw[hwP];exact Below.heap_alloc _ _ _ (by simp)
    have hset:=R4 (w4.heap.size+1) gz cz w2.heap.size w4.heap.size zs (lay xs) n ps ap cp wb.heap.size gw cw w3.heap.size wP hsep hpst (by rw[hwP];simp[go_sem]) (by rw[hwP];simp[go_sem]) (fun i=>by rw[hwP];simp[go_sem]) hN.1 hN.2.1 hN.2.2.1 HPO.out (by omega) hN.2.2.2 (HR4.out.below hbP) (fun k hk hh=>by
     have h9:=World.ownsRow.lt HR4.out k (by rw[Cc];exact hk)
     omega) (HW4.out.below hbP) (fun hh=>by
     have h9:=(HW4.out.own gw rfl).2
     omega)
    have HPG:Hid (∀w5 aR cR aC cC,SS wP w5 (w4.heap.size+1) gz cz w2.heap.size w4.heap.size zs (lay xs) (BZ (AF (lay xs) ps) (Cd (lay xs) ps)) aR cR (Dj (Cm (lay xs) ps) n) aC cC (Cd (lay xs) ps)->Calls prog 86 #[.pointer (some ⟨w4.heap.size+1,0,none⟩)] w5 fun r w'=>∃a c,r=.returned (.slice a XX.length c)/\A8 BW w' w5.heap.size (.slice a XX.length c) XX/\Bl w5 w'):=A9 <| fun w5 aR cR aC cC hS=>by
     have h9:=Pm w5 _ gz cz _ _ zs (lay xs) n _ _ _ aR aC cR _ cC _ (ST hvs hN.2.1 hN.2.2.1 hN.1 HZR.out HPO.out hN.2.2.2 hS);rw[HXX.out] at h9;exact h9
    have HWP:=A5 hwP;have HBP:Hid (Bl w wP):=HB4.out.trans (hbP.mono hw4);have hmk:(Instr.makeMap 158 none).run prog w4=.ok (.map (some w4.heap.size)) (w4.alloc (.map #[] 0)):=rfl;clear hse hrw hb4 b4 hwP hbP hzP hsep hpst hN HH HVS;(go_wp2_with fail);rw[<- HWP.out];refine hset.mono ?_;rintro e w5 ⟨rfl,aR,cR,aC,cC,hS⟩;have hpg:=HPG.out w5 aR cR aC cC hS;have HB5:Hid (Bl w w5):=A9 <| ((BF.of_below (S:=fun k=>w.heap.size<=k) HBP.out).then hS.tch (fun k hk hh=>by rcases hh with e|e<;>omega)).below (fun k hk hh=>by omega);clear hset hS HPG;(go_wp2_with fail);refine hpg.mono ?_;rintro e w6 ⟨a6,c6,rfl,hr6,hb6⟩;clear hpg;have HF:Hid (DT w (XX,0) (.returned (.tuple #[.slice a6 XX.length c6,.int .i64 0])) w6):=A9 <| ⟨a6,c6,rfl,hr6.rebase HB5.out.size,Ab HB5.out hb6⟩;clear hr6 hb6;(go_wp2_with fail);(go_ret2);exact HF.out
  ·(have hvb':FP xs=false:=by simpa using hvb);rw[J7 hpt hvb'];rw[hvb'] at HVS;clear hvb hvb' hpt hzr hz HH;(go_enter func25,ntmps25);(go_wp2_with fail);rw[<- HWB.out];refine hpc.mono ?_;rintro e w1 ⟨ap,cp,rfl,hrp,hb1⟩;have hv:=HVS.out w1 hb1;have HB1:=A5 hb1;clear hpc hrp hb1;(go_wp2_with fail);refine hv.mono ?_;rintro e w2 ⟨rfl,hb2⟩;have HB2:Hid (Bl w w2):=HBB.out.trans ((Ab HB1.out hb2).mono (by omega));clear hv hb2;(go_wp2_with fail);(go_ret2);exact⟨none,0,rfl,O5 _ _,HB2.out⟩
 ·have hpt':Be zs=false:=by simpa using hpt
  rw[Is hpt'];rw[hpt'] at hpc;clear hpt hpt' hzr hz HH HVS;go_enter func25,ntmps25
  go_wp2_with fail
  rw[<- HWB.out];refine hpc.mono ?_;rintro e w1 ⟨ap,cp,rfl,hrp,hb1⟩;have HB1:Hid (Bl w w1):=HBB.out.trans (hb1.mono (by omega));clear hpc hrp hb1;go_wp2_with fail
  go_ret2
  exact⟨none,0,rfl,O5 _ _,HB1.out⟩
end
end Go.Proofs.YtnmhkgmmpkjjeaaGreat
