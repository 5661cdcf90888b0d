import Derived.Test.YtnmhkgmmpkjjeaaGreatM46
namespace Go.Proofs.YtnmhkgmmpkjjeaaGreat
open ChangeShapes WideShapes ChangeAt RowKit Proofs.Tryz
set_option linter.all false
set_option maxRecDepth 100000
theorem Ap.same_of{zs:List Int}{n:Nat}{H:Nat->Ht}(h:Ap zs n H)(h0:Ao zs n H (A7 zs)=[]):(∀p:Nat,p<4096->BG zs p=MF (H p))/\∀q∈A7 zs,q.lv=1\/∃k:Nat,k<Ga q.lv.toNat/\(BG zs (q.pg+(k:Nat))).kind=1:=by
 have hok:=Kk (zs:=zs) (n:=n) h.lay h.nf h.pos h.tree h.room;rw[h0] at hok;have hok':Dd H n (AW H (A7 zs)) zs:=hok;refine⟨fun p hp=>hok'.walk p hp,fun q hq=>?_⟩;obtain⟨s,hs,e1,e2⟩:=hok'.tb.seat q ((hok'.mem q).1 hq);obtain⟨h1,h3,hr,hn,_,_⟩:=BY hs;by_cases hl:s.1=1
 ·exact .inl (by rw[e1,hl];rfl)
 ·refine .inr ?_;obtain⟨k,hk,hb⟩:=Re hl hn;refine⟨k,by rw[e1,Int.toNat_natCast];exact hk,?_⟩;have hw:=hok'.walk (s.2+k) (by omega);rw[e2,show ((s.2:Nat):Int)+(k:Nat)=((s.2+k:Nat):Int) by omega,hw];unfold hB at hb;exact(of_decide_eq_true hb).1
theorem Ap.kw1{zs:List Int}{n:Nat}{H:Nat->Ht}(h:Ap zs n H){p:Nat}(hp:p<4096)(hk:(BG zs p).kind=1):Av n 1 (DG zs p)=true:=by
 rcases h.c1 p hp with⟨_,h2,_⟩|⟨h1,_⟩
 ·have hn0:An zs.length≠0:=by rw[h.nf];have:=h.pos;omega
  rw[Ni zs p hn0 hp,Fq _ _ _ _ _ h2] at hk;cases hk
 ·exact h1
theorem Ap.kw2{zs:List Int}{n:Nat}{H:Nat->Ht}(h:Ap zs n H){p:Nat}(hp:p<4096)(hk:(BG zs p).kind=1)(hs:(BG zs p).size≠16):Av n 2 (DW zs p)=true:=by
 have hl:=h.kw1 hp hk;rw[h.walk1 hp hl] at hk hs;rcases h.c2 p hp hl with⟨_,h2,_⟩|⟨h1,_⟩|⟨h2,_⟩
 ·rw[Fq _ _ _ _ _ h2] at hk;cases hk
 ·exact h1
 ·rw[Ls _ _ _ _ _ h2] at hs;exact absurd rfl hs
theorem YQ(zs:List Int)(P k:Nat)(hm:P%256=0)(hk:k<256):DG zs (P+k)=DG zs P:=by
 unfold DG;rw[show (P+k)/256=P/256 by omega]
theorem U8(zs:List Int)(P k:Nat)(hm:P%16=0)(hk:k<16):DG zs (P+k)=DG zs P/\DW zs (P+k)=DW zs P:=by
 have e1:DG zs (P+k)=DG zs P:=by unfold DG;rw[show (P+k)/256=P/256 by omega]
 refine⟨e1,?_⟩;unfold DW;rw[e1,show (P+k)/16=P/16 by omega]
theorem Ap.none_of{zs:List Int}{n:Nat}{H:Nat->Ht}(h:Ap zs n H)(hw:∀p:Nat,p<4096->BG zs p=MF (H p))(hu:∀q∈A7 zs,q.lv=1\/∃k:Nat,k<Ga q.lv.toNat/\(BG zs (q.pg+(k:Nat))).kind=1):Ao zs n H (A7 zs)=[]:=by
 have hp1:=h.pos;have hkk:∀p:Nat,p<4096->(BG zs p).kind=(H p).k:=fun p hp=>by rw[hw p hp];rfl
 have hss:∀p:Nat,p<4096->(BG zs p).size=(H p).s:=fun p hp=>by rw[hw p hp];rfl
 have hb:∀s∈AJ H 256,0<=AI (A7 zs) (s.1:Nat) (s.2:Nat):=fun s hs=>by
  obtain⟨w1,w3,wr,wn,w0,wm⟩:=BY hs;obtain⟨L,P⟩:=s;dsimp only at *;rcases(by omega:L=1\/L=2\/L=3) with rfl|rfl|rfl
  ·rw[w0 rfl];(have hn0:An zs.length≠0:=by rw[h.nf];omega);have:=Cg h.plc.sorted ((BI zs hn0 root).2 (.inl rfl));have e:AI (A7 zs) ((1:Nat):Int) ((0:Nat):Int)=0:=this;omega
  ·obtain⟨k,hk,hB⟩:=Re (by decide) wn;have hk':k<256:=hk;have hP:P%256=0:=wm;have hr:P+256<=4096:=wr;have h1:=(of_decide_eq_true hB).1;have hl:=h.kw1 (p:=P+k) (by omega) (by rw[hkk _ (by omega)];exact h1);rw[YQ zs P k hP hk'] at hl;have:=(h.o2 P (by omega) hP).1 hl;have e:AI (A7 zs) ((2:Nat):Int) ((P:Nat):Int)=AX 1 (DG zs P):=this;rw[e];exact(Ci _ _).1
  ·obtain⟨k,hk,hB⟩:=Re (by decide) wn;have hk':k<16:=hk;have hP:P%16=0:=wm;have hr:P+16<=4096:=wr;obtain⟨h1,h2⟩:=of_decide_eq_true hB;have h2':(H (P+k)).s=1:=h2.resolve_left (fun h=>h rfl);(have hk1:(BG zs (P+k:Nat)).kind=1:=by rw[hkk _ (by omega)];exact h1);have hl:=h.kw1 (p:=P+k) (by omega) hk1;have hl2:=h.kw2 (p:=P+k) (by omega) hk1 (by rw[hss _ (by omega),h2'];decide);obtain⟨e1,e2⟩:=U8 zs P k hP hk';rw[e1] at hl;rw[e2] at hl2;have:=(h.o3 P (by omega) hP).1 hl hl2;have e:AI (A7 zs) ((3:Nat):Int) ((P:Nat):Int)=AX 2 (DW zs P):=this;rw[e];exact(Ci _ _).1
 have ha:∀q∈A7 zs,PP H q=true:=fun q hq=>by
  have hlv:=h.plc.lv hq;have hpg:=h.plc.pg hq;obtain⟨L,hL⟩:∃L:Nat,q.lv=L:=⟨q.lv.toNat,by omega⟩
  obtain⟨P,hP⟩:∃P:Nat,q.pg=P:=⟨q.pg.toNat,by omega⟩
  have hfr:=Cg h.plc.sorted hq;have hf0:=(h.plc.fr (by omega) hq).1;unfold PP;rcases hu q hq with h1|⟨k,hk,hk1⟩
  ·rw[h1];exact Fe H _
  ·rw[hL,Int.toNat_natCast] at hk;rw[hL,hP,Int.toNat_natCast,Int.toNat_natCast];rw[hP] at hk1;rw[hL,hP] at hfr hpg;rcases(by omega:L=1\/L=2\/L=3) with rfl|rfl|rfl
   ·exact Fe H _
   ·have hr:(P:Int)+16*16<=4096:=hpg.2;have hk':k<256:=hk;(have e:((P:Int)+(k:Nat))=((P+k:Nat):Int):=by omega);rw[e,hkk _ (by omega)] at hk1;exact Fi hk (decide_eq_true ⟨hk1,.inl (by decide)⟩)
   ·have hr:(P:Int)+16*1<=4096:=hpg.2;have hk':k<16:=hk;(have e:((P:Int)+(k:Nat))=((P+k:Nat):Int):=by omega);rw[e] at hk1;have hm:P%16=0:=by
     rcases h.plc.mem q hq with e|⟨i,_,e,_⟩|⟨i,j,_,_,_,e,_⟩
     ·rw[e] at hL;cases hL
     ·omega
     ·omega
    have e3:AI (A7 zs) 3 (P:Nat)=q.fr:=hfr;obtain⟨l1,l2⟩:=(h.o3 P (by omega) hm).2 (by rw[e3];exact hf0);obtain⟨e1,e2⟩:=U8 zs P k hm hk';have hsm:=h.small (p:=P+k) (by omega) (by rw[e1];exact l1) (by rw[e2];exact l2);rw[hss _ (by omega)] at hsm;rw[hkk _ (by omega)] at hk1;have:=(h.lay.one (P+k) (by omega) hk1).2.2.2.2;exact Fi hk (decide_eq_true ⟨hk1,.inr (by omega)⟩)
 have hk:AF H (A7 zs)=A7 zs:=List.filter_eq_self.2 ha;have hg:Cm H (A7 zs)=[]:=List.filter_eq_nil_iff.2 fun q hq=>by rw[ha q hq];decide
 have hnew:Cd H (A7 zs)=[]:=by
  unfold Cd;rw[hk];have hc:=G5 (A7 zs) (AJ H 256) (AJ H 256).length (Nat.le_refl _);rw[List.take_length,(List.countP_eq_length (p:=Om (A7 zs))).2 fun s hs=>decide_eq_true (hb s hs)] at hc;exact List.length_eq_zero_iff.1 (by omega)
 have hall:AW H (A7 zs)=A7 zs:=by unfold AW;rw[hk,hnew,List.append_nil]
 have hz:=Y3 (f:=fun p=>Fv zs H p 1+(Fv zs H p 2+Fv zs H p 3)) (g:=fun _=>0) 4096 fun p hp=>by
  have h1:=h.page hp;have h2:bn (Xo zs H p)=0:=by unfold Xo;rw[Hf.2 (hw p hp)];rfl
  have h3:∀l,tB zs H l p=0:=fun l=>by unfold tB Ts U1;rw[hall];cases decide (0<=AI (A7 zs) l p)<;>rfl
  rw[h2,h3,h3] at h1;exact h1
 rw[SE,<- PO] at hz;have hx:∀f:En->Bool,(Bo H (A7 zs)).countP f=0->(Bo H (A7 zs)).filter f=[]:=fun f h=>List.filter_eq_nil_iff.2 (List.countP_eq_zero.1 h)
 have h1:Ac zs H (AW H (A7 zs)) (Bo H (A7 zs))=[]:=by unfold Ac;rw[hx _ (by unfold Bo;omega)];rfl
 have h2:Ai zs H (AW H (A7 zs)) (Bo H (A7 zs))=[]:=by unfold Ai;rw[hx _ (by unfold Bo;omega)];rfl
 have h3:=(KY zs H (A7 zs)).1 h1;have h4:As n ([]:List P3)=[]:=by
  unfold As;rw[List.filter_eq_nil_iff.2,List.map_nil];intro f hf;simp[BA]
 unfold Ao;rw[h1,h2,h3,hg,hnew,h4];rfl
theorem TA{B C:List Int}(hl:C.length=B.length)(hn:An B.length≠0)(hw:∀q∈A7 B,∀i,i<16->AC C q.fr i=AC B q.fr i):∀q∈A7 C,q∈A7 B:=by
 intro q hq;have hq':=(BI C (by rw[hl];exact hn) q).1 hq;rw[hl] at hq';have hr:=(BI B hn root).2 (.inl rfl);rcases hq' with rfl|⟨i,hi,h1,hq'⟩
 ·exact hr
 have e1:AC C 0 i=AC B 0 i:=hw root hr i hi;rw[e1] at h1;have eu:Af C root i=Af B root i:=by rw[Cr,Cr,e1]
 have h2:=(BI B hn (Af B root i)).2 (.inr ⟨i,hi,h1,.inl rfl⟩);rcases hq' with rfl|⟨j,hj,h3,rfl⟩
 ·rw[eu];exact h2
 ·have e2:=hw _ h2 j hj;have eF:(Af B root i).fr=AX 1 (AC B 0 i):=by rw[Cr]
  have e2':AC C (AX 1 (AC B 0 i)) j=AC B (AX 1 (AC B 0 i)) j:=by rw[<- eF];exact e2
  rw[e1,e2'] at h3;refine(BI B hn _).2 (.inr ⟨i,hi,h1,.inr ⟨j,hj,h3,?_⟩⟩);rw[Fh,Fh,e1,e2']
theorem T0(mk:Nat->Bool)(m p:Nat):BO mk m p<=m-p:=by
 unfold BO;have:=(List.takeWhile_prefix (l:=List.range (m-p)) (fun k=>mk (p+k))).length_le;rw[List.length_range] at this;exact this
theorem ZP{mk:Nat->Bool}{m p:Nat}(hs:CO mk p=true)(hp:p<m):1<=BO mk m p:=by
 unfold BO;unfold CO at hs;rw[Bool.and_eq_true] at hs;obtain⟨j,hj⟩:∃j,m-p=j+1:=⟨m-p-1,by omega⟩
 rw[hj,List.range_succ_eq_map,List.takeWhile_cons_of_pos (by simpa using hs.1),List.length_cons];omega
theorem Yu{mk:Nat->Bool}{n:Nat}{s:YS}{o:BP}(h:o∈B8 mk):o.kind≠1/\o.kind≠2/\Y6 n s o:=by
 unfold B8 Br at h;obtain⟨r,hr,rfl⟩:=List.mem_map.1 h;obtain⟨p,hp,hr⟩:=List.mem_flatMap.1 hr;have hp:=List.mem_range.1 hp;split at hr
 ·rename_i hs;rw[List.mem_singleton] at hr;subst hr;have h1:=ZP hs hp;have h2:=T0 mk 4096 p;refine⟨by show (3:Int)≠1;decide,by show (3:Int)≠2;decide,.inr (.inr (.inl ⟨rfl,?_,?_,?_,rfl⟩))⟩
  ·show (0:Int)<=(p:Nat);omega
  ·show (1:Int)<=(BO mk 4096 p:Nat);omega
  ·show ((p:Nat):Int)+(BO mk 4096 p:Nat)<=4096;omega
 ·cases hr
theorem O8{l:List BP}{a:List BP}{o:BP}{r:List BP}(h:a++o :: r=l):o∈l/\∀x∈a,x∈l:=by
 subst h;exact⟨List.mem_append_right _ List.mem_cons_self,fun x hx=>List.mem_append_left _ hx⟩
theorem Ap.new_ne{zs:List Int}{n:Nat}{H:Nat->Ht}(h:Ap zs n H){q t:P3}(hq:q∈AF H (A7 zs))(ht:t∈Cd H (A7 zs)):q.fr≠t.fr:=by
 have hd:(AF H (A7 zs)++Cd H (A7 zs)).Pairwise (fun a b=>a.fr≠b.fr):=h.all.dis;exact(List.pairwise_append.1 hd).2.2 q hq t ht
theorem Nz{H:Nat->Ht}{all fresh:List P3}{o:BP}(h:o∈AU H all fresh):∃t∈fresh,∃i:Nat,i<16/\o=⟨1,t.fr*16+(i:Nat),0,C3 H all t.lv (t.pg+(i:Nat)*BX t.lv)⟩:=by
 unfold AU at h;obtain⟨t,ht,h⟩:=List.mem_flatMap.1 h;unfold B6 at h;obtain⟨i,hi,rfl⟩:=List.mem_map.1 h;exact⟨t,ht,i,List.mem_range.1 hi,rfl⟩
theorem Ap.fill_out{zs:List Int}{n:Nat}{H:Nat->Ht}(h:Ap zs n H)(B:List Int)(a:List BP)(ha:∀x∈a,x∈AU H (AW H (A7 zs)) (Cd H (A7 zs))){q:P3}(hq:q∈AF H (A7 zs))(i:Nat)(hi:i<16):AC (D8 B a) q.fr i=AC B q.fr i:=by
 obtain⟨_,f0,_⟩:=h.kfr hq;unfold AC;refine Et _ _ _ (fun o ho _ he=>?_);obtain⟨t,ht,j,hj,rfl⟩:=Nz (ha o ho);have ht0:=(h.all.fr t (List.mem_append_right _ ht)).1;have:=h.new_ne hq ht;dsimp only at he;omega
theorem Ap.acc{zs:List Int}{n:Nat}{H:Nat->Ht}(h:Ap zs n H):Jb n ⟨zs,zs,0⟩ (Ao zs n H (A7 zs))/\Do ⟨zs,zs,0⟩ (Ao zs n H (A7 zs))=⟨D8 zs (Ao zs n H (A7 zs)),D8 zs (Ao zs n H (A7 zs)),0⟩:=by
 have hp:=h.pos;have hn0:An zs.length≠0:=by rw[h.nf];omega
 have hel:(Bo H (A7 zs)).length<=4368:=by have:=QQ (AF H (A7 zs)) 4096;unfold Bo;omega
 have hnl:(Cd H (A7 zs)).length<=273:=by
  have h1:=FD (AF H (A7 zs)) (AJ H 256) (AJ H 256).length (Nat.le_refl _);have h2:=He H 256;unfold Cd;omega
 have hbrk:∀q∈A7 (DK zs H),q∈AF H (A7 zs):=h.brk_kept
 have hbl:(DK zs H).length=zs.length:=DB _ _;rw[Ou]
 obtain⟨p1,r1⟩:=LJ n zs (Ac zs H (AW H (A7 zs)) (Bo H (A7 zs))) (fun o ho=>by
   unfold Ac at ho
   obtain⟨e,he,rfl⟩:=List.mem_map.1 ho
   have:=OC H (by omega) h.plc (List.mem_filter.1 he).1
   exact⟨rfl,this.1,this.2,rfl⟩) (by have:=EK zs H (AW H (A7 zs)) (Bo H (A7 zs));omega) (fun a' o r' he=>by
   have ho:=(O8 he).1
   unfold Ac at ho
   obtain⟨e,_,rfl⟩:=List.mem_map.1 ho
   exact .inl rfl)
 have p2:Jb n ⟨DK zs H,DK zs H,0⟩ (BU (B8 (Fg zs H (AW H (A7 zs)) (Bo H (A7 zs)))))/\Do ⟨DK zs H,DK zs H,0⟩ (BU (B8 (Fg zs H (AW H (A7 zs)) (Bo H (A7 zs)))))=⟨DK zs H,DK zs H,0⟩:=by
  obtain⟨i1,i2⟩:=Jq n ⟨DK zs H,DK zs H,0⟩ (B8 (Fg zs H (AW H (A7 zs)) (Bo H (A7 zs)))) (fun o ho=>Yu ho);unfold BU;split
  ·exact⟨trivial,rfl⟩
  ·rw[Ec,FH,i2];exact⟨⟨i1,.inr (.inl ⟨rfl,rfl,rfl,rfl⟩),trivial⟩,rfl⟩
 obtain⟨p3,r3⟩:=Jq n ⟨DK zs H,DK zs H,0⟩ (As n (Cm H (A7 zs))) (fun o ho=>by
  unfold As at ho
  obtain⟨f,hf,rfl⟩:=List.mem_map.1 ho
  obtain⟨hf1,hf2⟩:=List.mem_filter.1 hf
  have hf1:=List.mem_range.1 hf1
  obtain⟨t,ht,htf⟩:=Fz.1 hf2
  have ht2:=List.mem_filter.1 ht
  have hno:∀q∈A7 (DK zs H),q.fr≠(f:Int):=fun q hq he=>by
   obtain⟨k1,k2⟩:=BB.1 (hbrk q hq)
   have:=(LN zs h.tree).eq k1 ht2.1 (he.trans htf.symm)
   subst this
   rw[k2] at ht2
   exact absurd ht2.2 (by simp)
  refine⟨by show (4:Int)≠1;decide,by show (4:Int)≠2;decide,.inr (.inr (.inr ⟨rfl,?_,?_,rfl,rfl,hno,hno⟩))⟩
  ·show (0:Int)<=(f:Nat);omega
  ·show ((f:Nat):Int)<n;omega)
 obtain⟨p4,r4⟩:=LJ n (DK zs H) (AU H (AW H (A7 zs)) (Cd H (A7 zs))) (fun o ho=>by
   obtain⟨t,ht,i,hi,rfl⟩:=Nz ho
   have:=h.all.fr t (List.mem_append_right _ ht)
   refine⟨rfl,?_,?_,rfl⟩
   ·show 0<=t.fr*16+(i:Nat);omega
   ·show t.fr*16+(i:Nat)<(n*16:Nat);omega) (by rw[Da];omega) (fun a' o r' he=>by
   obtain⟨ho,hall⟩:=O8 he
   obtain⟨t,ht,i,hi,rfl⟩:=Nz ho
   refine .inr (.inr (.inr (fun q hq=>?_)))
   have hq2:=TA (B:=DK zs H) (C:=D8 (DK zs H) a') (DB _ _) (by rw[hbl];exact hn0) (fun q hq i hi=>h.fill_out _ a' hall (hbrk q hq) i hi) q hq
   have:=h.new_ne (hbrk q hq2) ht
   show q.fr≠(t.fr*16+(i:Nat))/16
   omega)
 obtain⟨p5,r5⟩:=LJ n (D8 (DK zs H) (AU H (AW H (A7 zs)) (Cd H (A7 zs)))) (Ai zs H (AW H (A7 zs)) (Bo H (A7 zs))) (fun o ho=>by
   unfold Ai at ho
   obtain⟨e,he,rfl⟩:=List.mem_map.1 ho
   have:=OC H (by omega) h.plc (List.mem_filter.1 he).1
   exact⟨rfl,this.1,this.2,rfl⟩) (by have:=ER zs H (AW H (A7 zs)) (Bo H (A7 zs));omega) (fun a' o r' he=>by
   obtain⟨ho,hall⟩:=O8 he
   unfold Ai at ho
   obtain⟨e,he1,rfl⟩:=List.mem_map.1 ho
   obtain⟨he2,he3⟩:=List.mem_filter.1 he1
   obtain⟨t,ht,i,hi,rfl⟩:=Je (by omega) h.plc he2
   obtain⟨hta,t0,t1⟩:=h.kfr ht
   have hl:=h.len
   by_cases hex:∃x∈a',x.kind=1/\x.a.toNat=(CA t i).ad.toNat
   ·refine .inr (.inl ?_)
    symm
    refine Jc _ _ _ _ ?_ (fun x hx _ hxe=>?_) hex
    ·rw[DB,hbl]
     show (t.fr*16+(i:Nat)).toNat<_
     omega
    ·have hx2:=hall x hx
     unfold Ai at hx2
     obtain⟨e',hx3,rfl⟩:=List.mem_map.1 hx2
     obtain⟨u,hu,j,hj,rfl⟩:=Je (by omega) h.plc (List.mem_filter.1 hx3).1
     obtain⟨hua,u0,_⟩:=h.kfr hu
     obtain⟨rfl,rfl⟩:=JZ (n:=n) h.all.dis hua hta hj hi u0 t0 hxe
     rfl
   ·refine .inr (.inr (.inl ?_))
    show (D8 _ a').getD (CA t i).ad.toNat 0%2=0
    rw[Et _ _ _ (fun x hx hk hxe=>hex ⟨x,hx,hk,hxe⟩)]
    have e1:∀W:List Int,W.getD (CA t i).ad.toNat 0=AC W t.fr i:=fun W=>by
     unfold AC
     rw[<- RQ t.fr i t0]
     rfl
    rw[e1,h.fill_out (DK zs H) _ (fun x hx=>hx) ht i hi,h.brk_at ht hi]
    by_cases hb:GW zs H (AW H (A7 zs)) (CA t i)=true
    ·rw[if_pos hb];rfl
    ·rw[if_neg hb]
     have e2:Fl zs (CA t i).ad=AC zs t.fr i:=e1 zs
     unfold GW at hb
     unfold MT at he3
     rw[e2] at hb he3
     simp at hb he3
     by_cases ho:AC zs t.fr i%2=1
     ·exact absurd (hb ho).symm he3.2
     ·omega)
 unfold Ao;have r1':Do ⟨zs,zs,0⟩ (BU (Ac zs H (AW H (A7 zs)) (Bo H (A7 zs))))=⟨DK zs H,DK zs H,0⟩:=r1;rw[Ec,FH,r1',Ec,FH,p2.2,Ec,FH,r3,Ec,FH,r4];exact⟨⟨p1,p2.1,p3,p4,p5⟩,r5⟩
theorem Ap.ops{zs:List Int}{n:Nat}{H:Nat->Ht}(h:Ap zs n H):(Ao zs n H (A7 zs)).length<=20000:=by
 have hp:=h.pos;have hn2:=h.n2;have hel:(Bo H (A7 zs)).length<=4368:=by have:=QQ (AF H (A7 zs)) 4096;unfold Bo;omega
 have hnl:(Cd H (A7 zs)).length<=273:=by
  have h1:=FD (AF H (A7 zs)) (AJ H 256) (AJ H 256).length (Nat.le_refl _);have h2:=He H 256;unfold Cd;omega
 have hs:∀l:List BP,(BU l).length<=l.length+1:=fun l=>by unfold BU;split<;>simp
 have b1:=EK zs H (AW H (A7 zs)) (Bo H (A7 zs));have b5:=ER zs H (AW H (A7 zs)) (Bo H (A7 zs));have b4:=Da H (AW H (A7 zs)) (Cd H (A7 zs));have b3:=KD (Cm H (A7 zs)) n;have b2:(B8 (Fg zs H (AW H (A7 zs)) (Bo H (A7 zs)))).length<=4096:=by
  have:∀(mk:Nat->Bool) (k:Nat),(Br mk 4096 k).length<=k:=fun mk k=>by
   induction k with
   | zero=>simp[Br]
   | succ k ih =>
    unfold Br at ih ⊢;rw[List.range_succ,List.flatMap_append,List.length_append];simp only[List.flatMap_cons,List.flatMap_nil,List.append_nil];split
    ·rw[List.length_singleton];omega
    ·rw[List.length_nil];omega
  unfold B8;rw[List.length_map];exact this _ _
 have s1:=hs (Ac zs H (AW H (A7 zs)) (Bo H (A7 zs)));have s2:=hs (B8 (Fg zs H (AW H (A7 zs)) (Bo H (A7 zs))));have s4:=hs (AU H (AW H (A7 zs)) (Cd H (A7 zs)));have s5:=hs (Ai zs H (AW H (A7 zs)) (Bo H (A7 zs)));unfold Ao;simp only[List.length_append];omega
structure aB (n:Nat) (s:YS):Prop where
 m:s.m.length=n*16
 l:s.l.length=n*16
 wm:Pt s.m
 wl:Pt s.l
theorem V5{n:Nat}{s:YS}{o:BP}(h:aB n s)(ho:o.kind=1->Vg o.word):aB n (Cq s o):=by
 unfold Cq;split
 ·rename_i hk;have:=ho hk;exact⟨h.m,by rw[List.length_set];exact h.l,h.wm,h.wl.set _ _ this.1 this.2⟩
 ·split
  ·exact⟨h.l,h.l,h.wl,h.wl⟩
  ·exact h
theorem Rp{n:Nat}:∀(l:List BP) (s:YS),(∀o∈l,o.kind=1->Vg o.word)->aB n s->aB n (Do s l)
 | [],s,_,h=>h
 | o :: l,s,ho,h=>Rp l (Cq s o) (fun x hx=>ho x (List.mem_cons_of_mem _ hx)) (V5 h (ho o List.mem_cons_self))
theorem Ws{n:Nat}{s:YS}{l:List BP}(h:Jb n s l)(i:Nat)(hi:i<l.length):Y6 n (Do s (l.take i)) (AQ BW l i):=by
 have e:l=l.take i++(AQ BW l i :: l.drop (i+1)):=by
  have h1:AQ BW l i=l[i]:=by unfold AQ;rw[List.getD_eq_getElem?_getD,List.getElem?_eq_getElem hi];rfl
  rw[h1,<- List.drop_eq_getElem_cons hi,List.take_append_drop]
 rw[e,Ec] at h;exact h.2.1
theorem Kn{n:Nat}{zs:List Int}(hn1:1<=n)(hn:n<=512)(hl:zs.length=n*16)(hw:Pt zs):Cu zs:=⟨by
 unfold An;rw[if_neg (by omega)]
 omega,hw⟩
theorem NB(g c b bo n:Nat)(zs:List Int)(H:Nat->Ht)(ao:Option Addr)(co:Nat)(ae:Option Addr)(ce:Nat)(w:World)(h:Ap zs n H)(hw:Pt zs)(hr:A8 AY w b (.slice (some ⟨g,0,none⟩) zs.length c) zs)(hops:A8 BW w bo (.slice ao (Ao zs n H (A7 zs)).length co) (Ao zs n H (A7 zs))):Calls prog 14 #[.agg #[.slice (some ⟨g,0,none⟩) zs.length c,.slice none 0 0,.slice none 0 0,.slice none 0 0],.slice ao (Ao zs n H (A7 zs)).length co,.slice ae 0 ce] w fun e w'=>OM w (D8 zs (Ao zs n H (A7 zs))) (Ao zs n H (A7 zs)).length e w':=by
 have hp:=h.pos;have hn:=h.n2;have hl:=h.len;have hok:=NV zs n H (A7 zs);obtain⟨a1,a2⟩:=h.acc
 have t:=SV g c b bo zs ao co (Ao zs n H (A7 zs)) ae ce w (Kn hp hn hl hw) hr h.ops hops (fun b0 gu g1 c1 g2 c2 i hi wX a3' c3' P' hX=>by
  have hy:=Ws a1 i hi
  have hwf:=Rp ((Ao zs n H (A7 zs)).take i) ⟨zs,zs,0⟩ (fun o ho=>hok o (List.mem_of_mem_take ho)) (⟨hl,hl,hw,hw⟩:aB n ⟨zs,zs,0⟩)
  have hm:AQ BW (Ao zs n H (A7 zs)) i∈Ao zs n H (A7 zs):=by
   unfold AQ
   rw[List.getD_eq_getElem?_getD,List.getElem?_eq_getElem hi]
   exact List.getElem_mem hi
  have hwd:0<=(AQ BW (Ao zs n H (A7 zs)) i).word/\(AQ BW (Ao zs n H (A7 zs)) i).word<18446744073709551616:=by
   rcases hy with⟨e,_⟩|⟨_,_,_,e⟩|⟨_,_,_,_,e⟩|⟨_,_,_,_,e,_⟩
   ·exact hok _ hm e
   ·rw[e];exact⟨by decide,by decide⟩
   ·rw[e];exact⟨by decide,by decide⟩
   ·rw[e];exact⟨by decide,by decide⟩
  exact Qy gu b0 _ g1 c1 g2 c2 a3' c3' P' _ n wX hn hwf.l (Kn hp hn hwf.m hwf.wm) (Kn hp hn hwf.l hwf.wl) hy hwd.1 hwd.2 hX)
 rw[a2] at t;exact t
theorem Dd.plan_none{H:Nat->Ht}{n:Nat}{all:List P3}{A:List Int}(h:Dd H n all A):Ao A n H (A7 A)=[]:=by
 have hn1:=h.n1;have hnf:An A.length≠0:=by rw[h.len];omega
 have hpo:Bc n (A7 A):=by unfold A7;rw[if_neg hnf,h.len];exact Ek A n
 have hnd:∀q∈A7 A,PP H q=true:=fun q hq=>by
  obtain⟨s,hs,e1,e2⟩:=h.tb.seat q ((h.mem q).1 hq);unfold PP;rw[e1,e2,Int.toNat_natCast,Int.toNat_natCast];exact(BY hs).2.2.2.1
 have hk:AF H (A7 A)=A7 A:=by unfold AF;exact List.filter_eq_self.2 hnd
 have hg:Cm H (A7 A)=[]:=by
  unfold Cm;rw[List.filter_eq_nil_iff];intro q hq;rw[hnd q hq];decide
 have hfr:∀lv pg:Int,AI (A7 A) lv pg=AI all lv pg:=fun lv pg=>by
  by_cases hx:∃t∈all,t.lv=lv/\t.pg=pg
  ·obtain⟨t,ht,rfl,rfl⟩:=hx;rw[h.tb.uniq t ht,Cg h.sorted ((h.mem t).2 ht)]
  ·rw[Em (fun q hq e=>hx ⟨q,(h.mem q).1 hq,e⟩),Em (fun q hq e=>hx ⟨q,hq,e⟩)]
 have hnew:Cd H (A7 A)=[]:=by
  unfold Cd;rw[hk];have hc:=G5 (A7 A) (AJ H 256) (AJ H 256).length (Nat.le_refl _);rw[List.take_length] at hc;have hall:(AJ H 256).countP (Om (A7 A))=(AJ H 256).length:=by
   rw[List.countP_eq_length];intro s hs;obtain⟨t,ht,e1,e2,e3,f0,_⟩:=h.tb.of (lv:=s.1) (pg:=s.2) hs;unfold Om;rw[hfr,e3];exact decide_eq_true f0
  rw[hall] at hc;exact List.length_eq_zero_iff.1 (by omega)
 have hall:AW H (A7 A)=A7 A:=by unfold AW;rw[hk,hnew,List.append_nil]
 have hrg:∀lv pg:Int,C3 H (A7 A) lv pg=C3 H all lv pg:=fun lv pg=>by unfold C3;rw[hfr]
 have hent:∀e∈Bo H (A7 A),Pi (Fl A e.ad) (C3 H (A7 A) e.lv e.pg):=fun e he=>by
  obtain⟨t,ht,i,hi,rfl⟩:=Je (by omega) hpo he;rw[hk] at ht;have hta:=(h.mem t).1 ht;have f0:=(h.tb.fr t hta).1;have hw:=h.word t hta i hi;rw[hrg];have e:Fl A (CA t i).ad=AC A t.fr i:=by
   unfold Fl AC;show A.getD (t.fr*16+(i:Nat)).toNat 0=_;rw[show (t.fr*16+(i:Nat)).toNat=(t.fr*16).toNat+i by omega]
  rw[e];exact hw
 have hb:Ac A H (AW H (A7 A)) (Bo H (A7 A))=[]:=by
  unfold Ac;rw[hall,List.filter_eq_nil_iff.2,List.map_nil];intro e he hc;have hr:=hent e he;unfold GW at hc;have:=of_decide_eq_true hc;rcases hr with hr|hr
  ·exact this.2 hr
  ·omega
 have hl:Ai A H (AW H (A7 A)) (Bo H (A7 A))=[]:=by
  unfold Ai;rw[hall,List.filter_eq_nil_iff.2,List.map_nil];intro e he hc;have hr:=hent e he;unfold MT at hc;have:=of_decide_eq_true hc;rcases hr with hr|hr
  ·exact this.2 hr.symm
  ·exact this.1 hr.1
 have ht:=(KY A H (A7 A)).1 hb;have hf:As n ([]:List P3)=[]:=by
  unfold As;rw[List.filter_eq_nil_iff.2,List.map_nil];intro f hf;simp[BA]
 unfold Ao;rw[hb,hl,ht,hg,hnew,hf];rfl
structure Xx (n:Nat) (Z:List Int):Prop where
 t:Be Z=true
 f:An Z.length=n
 w:Pt Z
 n1:1<=n
structure Rh (n:Nat) (Z:List Int) (xs:List AE):Prop where
 p:Bk Z xs=(Ao Z n (lay xs) (A7 Z),0)
 c:Ap Z n (lay xs)
 g:Xx n (D8 Z (Ao Z n (lay xs) (A7 Z)))
 h:∀p:Nat,p<4096->BG (D8 Z (Ao Z n (lay xs) (A7 Z))) p=⟨(Me xs p).k,(Me xs p).o,(Me xs p).p,(Me xs p).s⟩
 e:Bk (D8 Z (Ao Z n (lay xs) (A7 Z))) xs=([],0)
 l:(D8 Z (Ao Z n (lay xs) (A7 Z))).length=Z.length
theorem VE{n:Nat}{Z:List Int}{xs:List AE}(hg:Xx n Z)(hv:FP xs=true)(hr:(AJ (lay xs) 256).length<=n):Rh n Z xs:=by
 have hn1:=hg.n1;have hT:(An Z.length).toNat=n:=by rw[hg.f];rfl
 have hvs:=VS.of_true hv;have hlay:=Vj hvs (fun p hp=>JY xs p hp);have hok:=Kk (zs:=Z) (n:=n) hlay hg.f hn1 hg.t hr;have hlen:(D8 Z (Ao Z n (lay xs) (A7 Z))).length=Z.length:=DB _ _;refine⟨?_,⟨hlay,hg.f,hn1,hg.t,hr,fun i=>(hg.w i).1⟩,⟨hok.tree,by rw[hlen];exact hg.f,VY _ _ (NV _ _ _ _) hg.w,hn1⟩,fun p hp=>?_,?_,hlen⟩
 ·rw[FY hg.t hv (by rw[hg.f];omega),hT]
 ·rw[hok.walk p hp,JY xs p hp];unfold Me;rw[if_pos ⟨hv,by omega,by omega⟩]
 ·rw[FY hok.tree hv (by rw[hlen,hg.f];omega),hlen,hT,hok.plan_none]
def UC (zs:List Int) (q:P3):Nat->Bool
 | 0=>decide (q.lv=1)
 | k+1=>UC zs q k||decide ((BG zs (q.pg+(k:Nat))).kind=1)
def VI (zs:List Int) (xs:List AE):Nat->Bool
 | 0=>true
 | k+1=>VI zs xs k&&J5 (BG zs k) (YI xs k)
def Tj (zs:List Int) (xs:List AE):Nat->Bool
 | 0=>VI zs xs 4096
 | i+1=>Tj zs xs i&&UC zs (Aq (A7 zs) i) (Ga (Aq (A7 zs) i).lv.toNat)
theorem OL(zs:List Int)(q:P3):∀k,UC zs q k=true↔q.lv=1\/∃j:Nat,j<k/\(BG zs (q.pg+(j:Nat))).kind=1
 | 0=>by simp[UC]
 | k+1=>by
  unfold UC;rw[Bool.or_eq_true,OL zs q k,decide_eq_true_eq];constructor
  ·rintro((h|⟨j,hj,h⟩)|h)
   ·exact .inl h
   ·exact .inr ⟨j,by omega,h⟩
   ·exact .inr ⟨k,by omega,h⟩
  ·rintro(h|⟨j,hj,h⟩)
   ·exact .inl (.inl h)
   ·rcases Nat.lt_succ_iff_lt_or_eq.1 hj with h'|rfl
    ·exact .inl (.inr ⟨j,h',h⟩)
    ·exact .inr h
theorem S4(zs:List Int)(xs:List AE):∀k,VI zs xs k=true↔∀p:Nat,p<k->BG zs p=YI xs p
 | 0=>by simp[VI]
 | k+1=>by
  unfold VI;rw[Bool.and_eq_true,S4 zs xs k,Hf];constructor
  ·rintro⟨h1,h2⟩ p hp;rcases Nat.lt_succ_iff_lt_or_eq.1 hp with h'|rfl
   ·exact h1 p h'
   ·exact h2
  ·exact fun h=>⟨fun p hp=>h p (by omega),h k (by omega)⟩
theorem Ro(zs:List Int)(xs:List AE):∀i,Tj zs xs i=true↔VI zs xs 4096=true/\∀j:Nat,j<i->UC zs (Aq (A7 zs) j) (Ga (Aq (A7 zs) j).lv.toNat)=true
 | 0=>by simp[Tj]
 | i+1=>by
  unfold Tj;rw[Bool.and_eq_true,Ro zs xs i];constructor
  ·rintro⟨⟨h1,h2⟩,h3⟩;refine⟨h1,fun j hj=>?_⟩;rcases Nat.lt_succ_iff_lt_or_eq.1 hj with h'|rfl
   ·exact h2 j h'
   ·exact h3
  ·exact fun ⟨h1,h2⟩=>⟨⟨h1,fun j hj=>h2 j (by omega)⟩,h2 i (by omega)⟩
theorem Td{n:Nat}{zs:List Int}{xs:List AE}(h:Ap zs n (lay xs))(hv:FP xs=true):Tj zs xs (A7 zs).length=decide ((Ao zs n (lay xs) (A7 zs)).length=0):=by
 have ha:∀p:Nat,p<4096->YI xs p=MF (lay xs p):=fun p hp=>by
  unfold YI Me MF;rw[if_pos ⟨hv,by omega,by omega⟩,JY xs p hp]
 have hiff:Tj zs xs (A7 zs).length=true↔Ao zs n (lay xs) (A7 zs)=[]:=by
  rw[Ro,S4];constructor
  ·rintro⟨h1,h2⟩;(refine h.none_of (fun p hp=>(h1 p hp).trans (ha p hp)) fun q hq=>?_);obtain⟨k,hk,rfl⟩:=OF hq;exact(OL zs _ _).1 (h2 k hk)
  ·intro h0;obtain⟨h1,h2⟩:=h.same_of h0;exact⟨fun p hp=>(h1 p hp).trans (ha p hp).symm,fun j hj=>(OL zs _ _).2 (h2 _ (Ha _ j hj))⟩
 rw[<- List.length_eq_zero_iff] at hiff;rw[Bool.eq_iff_iff,hiff,decide_eq_true_eq]
theorem Hw{zs:List Int}{xs:List AE}(hw:Pt zs)(h:(Bk zs xs).2=0):Rh (An zs.length).toNat zs xs/\FP xs=true/\Cu zs:=by
 obtain⟨h1,h2,h3⟩:=Lq h;have h0:=F5 h1;have hl:0<=An zs.length:=by unfold An;split<;>omega
 exact⟨VE ⟨h1,by omega,hw,by omega⟩ h2 (by omega),h2,h0,hw⟩
theorem Qa{zs:List Int}{xs:List AE}(h:(Bk zs xs).2≠0):(Bk zs xs).1.length=0:=by
 unfold Bk at *;repeat' split
 all_goals first|rfl|(exfalso;simp_all)
end Go.Proofs.YtnmhkgmmpkjjeaaGreat
