import Derived.Test.YtnmhkgmmpkjjeabGreatE13
namespace Go.Proofs.YtnmhkgmmpkjjeabGreat
open ChangeShapes WideShapes ChangeAt RowKit Proofs.Tryz
set_option linter.all false
set_option maxRecDepth 100000
set_option maxHeartbeats 4000000
attribute [local go_sem ↓] wp_at_zero wp_at_succ
def DM (e:CI):Value:=.agg #[.int .i64 e.page,.int .i64 (16*Ab e.level),.bool e.doom,.int .i64 e.level,.int .i64 e.table]
def IV (e:Am):Value:=.agg #[.int .i64 e.page,.int .i64 e.size,.bool e.doom,.int .i64 e.out,.int .i64 e.perm]
theorem JX(v:Value)(B:Nat)(xs:List CI)(e:CI)(w:World)(hn:xs.length<=256)(hv:A6 As w B v xs):Calls prog 160 #[v,DM e] w fun r w'=>∃k:Int,r=.returned (.int .i64 k)/\decide (0<=k)=BW (fun i=>BY (A8 As xs i) e) xs.length/\Below w.heap.size w w':=by
 obtain⟨a,c,rfl,haf⟩:=hv.form;unfold DM;obtain⟨wb,hwb⟩:∃wb,wb=w.alloc (.cells #[.int .i64 (e.page),.int .i64 (16*Ab e.level),.bool (e.doom),.int .i64 (e.level),.int .i64 (e.table)] 158):=⟨_,rfl⟩
 have hbb:Below w.heap.size w wb:=by rw[hwb];exact(Below.refl _ _).alloc (Nat.le_refl _) _
 have q0:wb.cell? ⟨w.heap.size,0,none⟩=some (.int .i64 (e.page)):=by rw[hwb];simp[go_sem]
 have q1:wb.cell? ⟨w.heap.size,1,none⟩=some (.int .i64 (16*Ab e.level)):=by rw[hwb];simp[go_sem]
 have q2:wb.cell? ⟨w.heap.size,2,none⟩=some (.bool (e.doom)):=by rw[hwb];simp[go_sem]
 have q3:wb.cell? ⟨w.heap.size,3,none⟩=some (.int .i64 (e.level)):=by rw[hwb];simp[go_sem]
 have q4:wb.cell? ⟨w.heap.size,4,none⟩=some (.int .i64 (e.table)):=by rw[hwb];simp[go_sem]
 have HWB:Hid (wb=_):=hwb;have HBB:Hid (Below _ w wb):=hbb;have HF:Hid _:=haf;clear hwb hbb haf hv;go_enter func160,ntmps160
 go_wp2_with fail
 go_loopw [8] (fun iv wr=>∃k:Nat,k<=xs.length/\iv=.int .i64 k/\BW (fun i=>BY (A8 As xs i) e) k=false/\∃n,wr=wb.drewN n) (fun iv _=>xs.length-(intOf iv).toNat)
 case atStart=>exact⟨0,Nat.zero_le _,rfl,rfl,0,HWB.out.symm⟩
 case round =>
  obtain⟨k,hk,rfl,hany,nd,rfl⟩:=hrel;by_cases hlt:k<xs.length
  ·obtain⟨g,N,f,hag,_,hr,hN,hf⟩:=HF.out (by omega);subst hag;have hN':xs.length*5<=N:=hN;have hr1:wb.rowIs g 158 N f:=hr.of_block (HBB.out.block g hr.lt);have k0:=hr1.cell (i:=k*5) (by omega);rw[show f (k*5)=.int .i64 ((A8 As xs k).page) from hf k hlt 0 (by decide)] at k0;have k1:=hr1.cell (i:=k*5+1) (by omega);rw[show f (k*5+1)=.int .i64 (16*Ab (A8 As xs k).level) from hf k hlt 1 (by decide)] at k1;have k2:=hr1.cell (i:=k*5+2) (by omega);rw[show f (k*5+2)=.bool ((A8 As xs k).doom) from hf k hlt 2 (by decide)] at k2;have k3:=hr1.cell (i:=k*5+3) (by omega);rw[show f (k*5+3)=.int .i64 ((A8 As xs k).level) from hf k hlt 3 (by decide)] at k3;have k4:=hr1.cell (i:=k*5+4) (by omega);rw[show f (k*5+4)=.int .i64 ((A8 As xs k).table) from hf k hlt 4 (by decide)] at k4;(have hst:BW (fun i=>BY (A8 As xs i) e) (k+1)=BY (A8 As xs k) e:=by rw[Ck,hany,Bool.false_or]);(have hyes:BY (A8 As xs k) e=true->BW (fun i=>BY (A8 As xs i) e) xs.length=true:=fun h=>BF _ k _ hlt h);(have L1:(0:Int)<=(k:Int):=by omega);(have L2:(k:Int)<(xs.length:Int):=by omega);have hgl:=hr1.lt;have HST:Hid _:=hst;have HYES:Hid _:=hyes;clear hst hyes hany hr1 hr hf hN;generalize A8 As xs k=x at *;by_cases h0:e.page=x.page
   ·(have h0':(e.page==x.page)=true:=by simpa using h0);by_cases h1:16*Ab e.level=16*Ab x.level
    ·(have h1':(16*Ab e.level==16*Ab x.level)=true:=by simpa using h1);by_cases h2:e.doom=x.doom
     ·(have h2':(e.doom==x.doom)=true:=by simpa using h2);by_cases h3:e.level=x.level
      ·(have h3':(e.level==x.level)=true:=by simpa using h3);by_cases h4:e.table=x.table
       ·(have h4':(e.table==x.table)=true:=by simpa using h4);have hv:BY x e=true:=by
         simp[BY,h0,h2,h3,h4]
        have HV:Hid _:=HYES.out hv;clear hv h0 h1 h2 h3 h4;generalize 16*Ab x.level=X1 at *;generalize 16*Ab e.level=Y1 at *;(go_wp2_with fail);(go_quiet (fail));(go_wp2_with fail);go_ret;exact⟨_,rfl,by rw[HV.out];simp,AS (AS HBB.out _) _⟩
       ·(have h4':(e.table==x.table)=false:=by simpa using h4);have hv:BY x e=false:=by
         simp only[BY,Bool.and_eq_false_iff,decide_eq_false_iff_not];exact .inl (.inr (fun h=>h4 h.symm))
        clear h0 h1 h2 h3 h4;have HV:Hid (BY x e=false):=hv;clear hv;generalize 16*Ab x.level=X1 at *;generalize 16*Ab e.level=Y1 at *;(go_wp2_with fail);(go_quiet (fail));(go_wp2_with fail);go_roundw;(case rel=>exact⟨k+1,by omega,by go_num,by rw[HST.out,HV.out],_,rfl⟩);case measure=>simp[intOf];omega
      ·(have h3':(e.level==x.level)=false:=by simpa using h3);have hv:BY x e=false:=by
        simp only[BY,Bool.and_eq_false_iff,decide_eq_false_iff_not];exact .inl (.inl (.inl (fun h=>h3 h.symm)))
       clear h0 h1 h2 h3;have HV:Hid (BY x e=false):=hv;clear hv;generalize 16*Ab x.level=X1 at *;generalize 16*Ab e.level=Y1 at *;(go_wp2_with fail);(go_quiet (fail));(go_wp2_with fail);go_roundw;(case rel=>exact⟨k+1,by omega,by go_num,by rw[HST.out,HV.out],_,rfl⟩);case measure=>simp[intOf];omega
     ·(have h2':(e.doom==x.doom)=false:=by simpa using h2);have hv:BY x e=false:=by
       simp only[BY,Bool.and_eq_false_iff,beq_eq_false_iff_ne];exact .inr (fun h=>h2 h.symm)
      clear h0 h1 h2;have HV:Hid (BY x e=false):=hv;clear hv;generalize 16*Ab x.level=X1 at *;generalize 16*Ab e.level=Y1 at *;(go_wp2_with fail);(go_quiet (fail));(go_wp2_with fail);go_roundw;(case rel=>exact⟨k+1,by omega,by go_num,by rw[HST.out,HV.out],_,rfl⟩);case measure=>simp[intOf];omega
    ·(have h1':(16*Ab e.level==16*Ab x.level)=false:=by simpa using h1);have hv:BY x e=false:=by
      simp only[BY,Bool.and_eq_false_iff,decide_eq_false_iff_not];exact .inl (.inl (.inl (fun h=>h1 (by rw[h]))))
     clear h0 h1;have HV:Hid (BY x e=false):=hv;clear hv;generalize 16*Ab x.level=X1 at *;generalize 16*Ab e.level=Y1 at *;(go_wp2_with fail);(go_quiet (fail));(go_wp2_with fail);go_roundw;(case rel=>exact⟨k+1,by omega,by go_num,by rw[HST.out,HV.out],_,rfl⟩);case measure=>simp[intOf];omega
   ·(have h0':(e.page==x.page)=false:=by simpa using h0);have hv:BY x e=false:=by
     simp only[BY,Bool.and_eq_false_iff,decide_eq_false_iff_not];exact .inl (.inl (.inr (fun h=>h0 h.symm)))
    clear h0;have HV:Hid (BY x e=false):=hv;clear hv;generalize 16*Ab x.level=X1 at *;generalize 16*Ab e.level=Y1 at *;(go_wp2_with fail);(go_quiet (fail));(go_wp2_with fail);go_roundw;(case rel=>exact⟨k+1,by omega,by go_num,by rw[HST.out,HV.out],_,rfl⟩);case measure=>simp[intOf];omega
  ·(have e0:k=xs.length:=by omega);subst e0;(have L2:¬(xs.length:Int)<(xs.length:Int):=by omega);have HV:Hid _:=hany;clear hany;(go_wp2_with fail);go_ret;exact⟨_,rfl,by rw[HV.out];decide,AS HBB.out _⟩
theorem Ji(v:Value)(B:Nat)(xs:List CI)(e:CI)(w:World)(hn:xs.length<=256)(hv:A6 As w B v xs):Calls prog 153 #[v,DM e] w fun r w'=>r=.returned (.bool (BW (fun i=>BY (A8 As xs i) e) xs.length))/\Below w.heap.size w w':=by
 have hb1:Below w.heap.size w (w.alloc (.cells #[.int .i64 (e.page),.int .i64 (16*Ab e.level),.bool (e.doom),.int .i64 (e.level),.int .i64 (e.table)] 158)):=(Below.refl _ _).alloc (Nat.le_refl _) _;have h:=JX v B xs e _ hn (hv.below hb1);obtain⟨a,c,rfl,_⟩:=hv.form;unfold DM at h ⊢;have HB1:Hid _:=hb1;clear hv hb1;go_enter func153,ntmps153
 go_wp2_with fail
 refine h.mono ?_;rintro r w1 ⟨k,rfl,hk,hb⟩;have HB:Hid (Below w.heap.size w w1):=HB1.out.trans (hb.mono (by simp));clear hb h;cases hR:BW (fun i=>BY (A8 As xs i) e) xs.length<;>rw[hR] at hk<;>(have HR:Hid _:=hR)<;>clear hR
 ·go_wp2_with fail
  go_ret;exact⟨by rw[HR.out];rfl,HB.out⟩
 ·go_wp2_with fail
  go_ret;exact⟨by rw[HR.out];rfl,HB.out⟩
def Bn (xs:List CI) (e:CI):List CI:=if BW (fun i=>BY (A8 As xs i) e) xs.length||decide (256<=xs.length) then xs else xs++[e]
set_option maxRecDepth 100000 in
theorem Ju(a:Option Addr)(c:Nat)(B:Nat)(xs:List CI)(e:CI)(w:World)(hn:xs.length<=256)(hB:B<=w.heap.size)(hv:A6 As w B (.slice a xs.length c) xs):Calls prog 140 #[.slice a xs.length c,DM e,.int .i64 256] w fun r w'=>∃a' c',r=.returned (.slice a' (Bn xs e).length c')/\A6 As w' B (.slice a' (Bn xs e).length c') (Bn xs e)/\w.grownBy w' (Al a)/\(∀k,Al a'=some k->Al a=some k\/w.heap.size<=k):=by
 obtain⟨iE,hiE,hz0,hz1,hz2⟩:=info_parts IM;obtain⟨wb,hwb⟩:∃wb,wb=w.alloc (.cells #[.int .i64 (e.page),.int .i64 (16*Ab e.level),.bool (e.doom),.int .i64 (e.level),.int .i64 (e.table)] 158):=⟨_,rfl⟩
 have hbb:Below w.heap.size w wb:=by rw[hwb];exact(Below.refl _ _).alloc (Nat.le_refl _) _
 have hzb:wb.heap.size=w.heap.size+1:=by rw[hwb];simp
 have hh:=Ji (.slice a xs.length c) B xs e wb hn (hv.below hbb);have keep:∀wX,Below w.heap.size w wX->Bn xs e=xs->∃a' c',Ending.returned (.slice a xs.length c)=.returned (.slice a' (Bn xs e).length c')/\A6 As wX B (.slice a' (Bn xs e).length c') (Bn xs e)/\w.grownBy wX (Al a)/\(∀k,Al a'=some k->Al a=some k\/w.heap.size<=k):=by
  intro wX hX he;rw[he];exact⟨a,c,rfl,hv.below hX,⟨hX.os,hX.tape,hX.output,hX.size,fun k hk _=>hX.block k hk⟩,fun k hk=>.inl hk⟩
 have HK:Hid _:=keep;by_cases hf:256<=xs.length
 ·have he:Bn xs e=xs:=by unfold Bn;simp[hf]
  have L:(256:Int)<=(xs.length:Int):=by omega
  have HE:Hid _:=he;clear hh he keep;unfold DM;rw[hwb] at hbb;have HBB:Hid _:=hbb;clear hwb hbb hzb;go_enter func140,ntmps140
  go_wp2_with fail
  go_ret;exact HK.out _ HBB.out HE.out
 ·have L:(xs.length:Int)<256:=by omega
  cases hR:BW (fun i=>BY (A8 As xs i) e) xs.length
  ·(have he:Bn xs e=xs++[e]:=by unfold Bn;simp[hR];omega);rw[hR] at hh;rw[he];(have hlen:(xs++[e]).length=xs.length+1:=by simp);rw[hlen];have HWB:Hid (wb=_):=hwb;have HBB:Hid (Below _ w wb):=hbb;have HV:Hid (A6 As w B _ xs):=hv;(have HLT:Hid (∀k,Al a=some k->k<w.heap.size):=fun k hk=>(hv.ownA k hk).2);rw[hwb] at hh;clear hbb hv he hwb keep hR hlen;unfold DM at hh ⊢;(go_enter func140,ntmps140);(go_wp2_with fail);refine hh.mono ?_;rintro r w1 ⟨rfl,hb1'⟩;(have hb1:Below wb.heap.size wb w1:=by rw[HWB.out];exact hb1');have s1:=hb1.size;clear hb1' hh;have x0:w1.cell? ⟨w.heap.size,0,none⟩=some (.int .i64 (e.page)):=(hb1.cell (p:=⟨w.heap.size,0,none⟩) (by simp;omega)).trans (by rw[HWB.out];simp[go_sem]);have x1:w1.cell? ⟨w.heap.size,1,none⟩=some (.int .i64 (16*Ab e.level)):=(hb1.cell (p:=⟨w.heap.size,1,none⟩) (by simp;omega)).trans (by rw[HWB.out];simp[go_sem]);have x2:w1.cell? ⟨w.heap.size,2,none⟩=some (.bool (e.doom)):=(hb1.cell (p:=⟨w.heap.size,2,none⟩) (by simp;omega)).trans (by rw[HWB.out];simp[go_sem]);have x3:w1.cell? ⟨w.heap.size,3,none⟩=some (.int .i64 (e.level)):=(hb1.cell (p:=⟨w.heap.size,3,none⟩) (by simp;omega)).trans (by rw[HWB.out];simp[go_sem]);have x4:w1.cell? ⟨w.heap.size,4,none⟩=some (.int .i64 (e.table)):=(hb1.cell (p:=⟨w.heap.size,4,none⟩) (by simp;omega)).trans (by rw[HWB.out];simp[go_sem]);have hown:w1.ownsRow B 158 5 (.slice a xs.length c) xs.length (AF As xs):=HV.out.below (HBB.out.trans (hb1.mono (by omega)));have HB1:Hid (Below w.heap.size w w1):=HBB.out.trans (hb1.mono (by omega));have HEC:Hid (As.enc e=[.int .i64 (e.page),.int .i64 (16*Ab e.level),.bool (e.doom),.int .i64 (e.level),.int .i64 (e.table)]):=rfl;have HOWN:Hid _:=hown;clear hb1 hown;(go_wp2_with (at_builtin;refine wpList_append_lies _ rfl (.tmp 17) (.tmp 19) 150 rfl B 158 iE _ 5 40 underlying150 hiE hz0 hz1 hz2 rfl (by omega) _ _ _ rfl (World.ownsRow.alloc HOWN.out _) ⟨w1.heap.size,0,none⟩ 1 1 [.int .i64 (e.page),.int .i64 (16*Ab e.level),.bool (e.doom),.int .i64 (e.level),.int .i64 (e.table)] rfl rfl ?c1 ?c2 (by omega) ?c3 ?c4 ?c5 (w1.heap.size+1) ?c6 ?_));(case c1=>exact World.news_of_block (heap_alloc_new w1 (.cells #[.int .i64 (e.page),.int .i64 (16*Ab e.level),.bool (e.doom),.int .i64 (e.level),.int .i64 (e.table)] 158)));(case c2=>intro u hu;simp at hu;rcases hu with rfl|rfl|rfl|rfl|rfl<;>rfl);(case c3=>unfold maxLen;omega);(case c4=>omega);(case c5=>simp;omega);(case c6=>simp);intro g1 cap1 wn hown hgrow hat hlt3;rw[<- HEC.out] at hown;have hnew:A6 As wn B (.slice (some ⟨g1,0,none⟩) (xs.length+1) cap1) (xs++[e]):=by
    (have h2:AF As (xs++[e])=AF As xs++As.enc e:=by rw[C8];simp[AF]);unfold A6;rw[h2,List.length_append];exact hown
   have hg2:w.grownBy wn (Al a):=by
    rw[AQ] at hgrow;have hB1:=HB1.out
    exact⟨hgrow.os.trans hB1.os,hgrow.tape.trans hB1.tape,hgrow.output.trans hB1.output,by have h3:=hgrow.size;have h4:=hB1.size;rw[World.size_alloc] at h3;omega,fun k hk hn=>by
     have h3:=hgrow.block k (by have:=hB1.size;simp;omega) hn
     rw[h3,heap_alloc_old w1 _ (by have:=hB1.size;omega)]
     exact hB1.block k hk⟩
   have ho:∀k,Al (some ⟨g1,0,none⟩)=some k->Al a=some k\/w.heap.size<=k:=fun k hk=>by
    rw[AQ] at hat;(have:g1=k:=by simpa [Al,Value.ownBlock] using hk);subst this;rcases hat with h'|h'
    ·exact .inl h'
    ·have:=HB1.out.size;exact .inr (by omega)
   have HNEW:Hid _:=hnew;have HG2:Hid _:=hg2;clear hown hgrow hat hnew hg2 x0 x1 x2 x3 x4;(go_wp2_with fail);go_ret;exact⟨_,_,rfl,HNEW.out,HG2.out,ho⟩
  ·(have he:Bn xs e=xs:=by unfold Bn;simp[hR]);rw[hR] at hh;have HWB:Hid (wb=_):=hwb;have HBB:Hid (Below _ w wb):=hbb;have HE:Hid _:=he;rw[hwb] at hh;clear hbb he hwb keep hR hv;unfold DM at hh ⊢;(go_enter func140,ntmps140);(go_wp2_with fail);refine hh.mono ?_;rintro r w1 ⟨rfl,hb1'⟩;(have hb1:Below wb.heap.size wb w1:=by rw[HWB.out];exact hb1');have HB1:Hid (Below w.heap.size w w1):=HBB.out.trans (hb1.mono (by omega));clear hb1' hh hb1;(go_wp2_with fail);go_ret;exact HK.out _ HB1.out HE.out
def Es (M:A9) (page l:Int):Prop:=∀j,j<M.wc.length->CX M page l j=false
theorem He{M:A9}{page choice:Int}(hb:BT choice 0=true)(l:Int)(hl:l=2\/l=3)(hab:∀l',l<l'->l'<=3->Es M page l')(k:Nat)(hk:k<M.wc.length)(hn:∀j,j<k->CX M page l j=false)(hy:CX M page l k=true):Ar M page choice=A8 AJ M.wc k:=by
 have hf:Fc M page l=k:=Hj _ _ _ hk hn hy;unfold Ar;rw[if_pos hb];rcases hl with rfl|rfl
 ·have h3:Fc M page 3=M.wc.length:=DS _ _ (hab 3 (by omega) (by omega));rw[if_neg (by omega),hf,if_pos hk]
 ·rw[hf,if_pos hk]
theorem GU{M:A9}{page choice:Int}(h2:Es M page 2)(h3:Es M page 3):Ar M page choice=⟨1,0,0,false⟩:=by
 have e2:Fc M page 2=M.wc.length:=DS _ _ h2;have e3:Fc M page 3=M.wc.length:=DS _ _ h3;unfold Ar;rw[e2,e3];simp
theorem Gy{M:A9}{page choice:Int}(hb:BT choice 0=false):Ar M page choice=⟨1,0,0,false⟩:=by
 unfold Ar;rw[if_neg (by rw[hb];simp)]
theorem Ln(e:CI)(page:Int)(hp0:0<=page)(hp1:page<4096)(hl:e.level=2\/e.level=3)(hm:e.page%Ab (e.level-1)=0):BM e.page (16*Ab e.level) page 1=DO e page:=by
 unfold BM DO;rcases hl with h|h<;>rw[h] at hm ⊢
 ·have c1:Ab (2-1)=256:=by decide
  have c2:Ab 2=16:=by decide
  rw[c1] at hm ⊢;rw[c2];rw[Bool.eq_iff_iff];simp only[Bool.and_eq_true,decide_eq_true_eq];omega
 ·have c1:Ab (3-1)=16:=by decide
  have c2:Ab 3=1:=by decide
  rw[c1] at hm ⊢;rw[c2];rw[Bool.eq_iff_iff];simp only[Bool.and_eq_true,decide_eq_true_eq];omega
theorem LW(gu b0 B:Nat)(L:Bool)(u:UV)(M:A9)(page choice:Int)(w:World)(hp0:0<=page)(hp1:page<4096)(hc0:0<=choice)(hc1:choice<=65535)(hn:M.wc.length<=256)(hwc:∀i,i<M.wc.length->((A8 AJ M.wc i).level=2\/(A8 AJ M.wc i).level=3)/\0<=(A8 AJ M.wc i).page/\(A8 AJ M.wc i).page<4096/\(A8 AJ M.wc i).page%Ab ((A8 AJ M.wc i).level-1)=0)(h:UM w gu b0 B L u M):Calls prog 132 #[.pointer (some ⟨gu,0,none⟩),.int .i64 page,.int .i64 choice] w fun r w'=>r=.returned (DM (Ar M page choice))/\Below w.heap.size w w':=by
 have hh:=DU choice 0 1 rfl (by omega) hc0 hc1;obtain⟨wb,hwb⟩:∃wb,wb=w.alloc (.cells #[.int .i64 0,.int .i64 0,.bool false,.int .i64 0,.int .i64 0] 158):=⟨_,rfl⟩
 have hbb:Below w.heap.size w wb:=by rw[hwb];exact(Below.refl _ _).alloc (Nat.le_refl _) _
 have hzb:wb.heap.size=w.heap.size+1:=by rw[hwb];simp
 have lt:=h.lt;have HQ:Hid (∀wX,Below (w.heap.size+1) wb wX->wX.cell? ⟨gu,4,none⟩=some (.slice u.a5 M.wc.length u.c5)/\wX.cell? ⟨w.heap.size,0,none⟩=some (.int .i64 0)/\wX.cell? ⟨w.heap.size,1,none⟩=some (.int .i64 0)/\wX.cell? ⟨w.heap.size,2,none⟩=some (.bool false)/\wX.cell? ⟨w.heap.size,3,none⟩=some (.int .i64 0)/\wX.cell? ⟨w.heap.size,4,none⟩=some (.int .i64 0)/\wX.frozen? ⟨w.heap.size,0,none⟩=false/\wX.frozen? ⟨w.heap.size,1,none⟩=false/\wX.frozen? ⟨w.heap.size,2,none⟩=false/\wX.frozen? ⟨w.heap.size,3,none⟩=false/\wX.frozen? ⟨w.heap.size,4,none⟩=false):=fun wX hX =>
  ⟨(hX.cell (by simp;omega)).trans ((hbb.cell (by simpa using lt)).trans h.q4),(hX.cell (by simp)).trans (by rw[hwb];simp[go_sem]),(hX.cell (by simp)).trans (by rw[hwb];simp[go_sem]),(hX.cell (by simp)).trans (by rw[hwb];simp[go_sem]),(hX.cell (by simp)).trans (by rw[hwb];simp[go_sem]),(hX.cell (by simp)).trans (by rw[hwb];simp[go_sem]),(hX.frozen (by simp)).trans (by rw[hwb];simp[go_sem]),(hX.frozen (by simp)).trans (by rw[hwb];simp[go_sem]),(hX.frozen (by simp)).trans (by rw[hwb];simp[go_sem]),(hX.frozen (by simp)).trans (by rw[hwb];simp[go_sem]),(hX.frozen (by simp)).trans (by rw[hwb];simp[go_sem])⟩
 have HC:Hid (A6 As w B _ M.wc):=h.c;have HWB:Hid (wb=_):=hwb;have HBB:Hid (Below _ w wb):=hbb;have HZ:Hid (wb.heap.size=w.heap.size+1):=hzb;have HWC:Hid _:=hwc;clear h hwb hbb hzb hwc;cases hb:BT choice 0
 ·rw[hb] at hh;have HV:Hid _:=Gy (M:=M) (page:=page) hb;clear hb;go_enter func132,ntmps132
  go_wp2_with (go_at_call 103;refine(hh _).mono ?_;rintro e w1 ⟨rfl,rfl⟩)
  exact bodyPost_ret (v:=DM ⟨1,0,0,false⟩) (by simp[results,results132,go_sem,DM,show Ab 1=256 from rfl]) rfl ⟨by rw[HV.out],(Below.refl _ _).alloc (Nat.le_refl _) _⟩
 ·rw[hb] at hh;have HB0:Hid _:=hb;clear hb;go_enter func132,ntmps132
  go_wp2_with (go_at_call 103;refine(hh _).mono ?_;rintro e w1 ⟨rfl,rfl⟩)
  go_loopw [7] (fun lv wr=>∃l:Int,lv=.int .i64 l/\1<=l/\l<=3/\(∀l',l<l'->l'<=3->Es M page l')/\Below (w.heap.size+1) wb wr) (fun lv _=>(intOf lv).toNat)
  case atStart=>exact⟨3,rfl,by omega,by omega,fun l' h1 h2=>by omega,by rw[HWB.out];exact Below.refl _ _⟩
  case round =>
   obtain⟨l,rfl,hl1,hl3,hab,hb⟩:=hrel;obtain⟨q4,c0,c1,c2,c3,c4,f0,f1,f2,f3,f4⟩:=HQ.out wr hb;have hz:=HZ.out;have hsz:=hb.size;by_cases hlt:1<l
   ·(obtain⟨l0,rfl⟩:∃w0,w0=wr:=⟨_,rfl⟩);have HB:Hid _:=hb;have HAB:Hid _:=hab;clear hb hab c0 c1 c2 c3 c4 f0 f1 f2 f3 f4;(go_wp2_with fail);(go_loopw [21] (fun iv wr=>∃k:Nat,k<=M.wc.length/\iv=.int .i64 k/\(∀j,j<k->CX M page l j=false)/\Below (w.heap.size+1) wb wr) (fun iv _=>M.wc.length-(intOf iv).toNat));(case atStart=>exact⟨0,Nat.zero_le _,rfl,fun j hj=>by omega,HB.out⟩);case round =>
     obtain⟨k,hk,rfl,hnk,hb⟩:=hrel;obtain⟨q4,c0,c1,c2,c3,c4,f0,f1,f2,f3,f4⟩:=HQ.out wr hb;have hsz:=hb.size;by_cases hkl:k<M.wc.length
     ·obtain⟨ga,ca,hae,haf⟩:=HC.out.form;obtain⟨g,N,f,hag,_,hr,hN,hf⟩:=haf (by omega);have hga:u.a5=some ⟨g,0,none⟩:=by
       simp only[Value.slice.injEq] at hae;exact hae.1.trans hag
      have hN':M.wc.length*5<=N:=hN;have hr1:wr.rowIs g 158 N f:=hr.of_block ((HBB.out.trans (hb.mono (by omega))).block g hr.lt);rw[hga] at q4 ⊢;have k0:=hr1.cell (i:=k*5) (by omega);rw[show f (k*5)=.int .i64 (A8 AJ M.wc k).page from hf k hkl 0 (by decide)] at k0;have k1:=hr1.cell (i:=k*5+1) (by omega);rw[show f (k*5+1)=.int .i64 (16*Ab (A8 AJ M.wc k).level) from hf k hkl 1 (by decide)] at k1;have k2:=hr1.cell (i:=k*5+2) (by omega);rw[show f (k*5+2)=.bool (A8 AJ M.wc k).doom from hf k hkl 2 (by decide)] at k2;have k3:=hr1.cell (i:=k*5+3) (by omega);rw[show f (k*5+3)=.int .i64 (A8 AJ M.wc k).level from hf k hkl 3 (by decide)] at k3;have k4:=hr1.cell (i:=k*5+4) (by omega);rw[show f (k*5+4)=.int .i64 (A8 AJ M.wc k).table from hf k hkl 4 (by decide)] at k4;have hgl:=hr1.lt;obtain⟨el,ep0,ep1,epm⟩:=HWC.out k hkl;have hfin:CX M page l k=true->Ar M page choice=A8 AJ M.wc k:=He HB0.out l (by omega) HAB.out k hkl hnk;have hsv:CX M page l k=(decide ((A8 AJ M.wc k).level=l)&&DO (A8 AJ M.wc k) page):=rfl;have hmt:=Ln (A8 AJ M.wc k) page hp0 hp1 el epm;have hcb:=Ek (A8 AJ M.wc k).level;(have L1:(0:Int)<=(k:Int):=by omega);(have L2:(k:Int)<(M.wc.length:Int):=by omega);have HNK:Hid _:=hnk;have HFIN:Hid _:=hfin;have HSV:Hid _:=hsv;have HBk:Hid _:=hb;clear hr1 hr hf hN haf hae hga hag hfin hsv hb hnk epm;generalize A8 AJ M.wc k=x at *;(obtain⟨wx,hwx⟩:∃wx,wx=wr.alloc (.cells #[.int .i64 x.page,.int .i64 (16*Ab x.level),.bool x.doom,.int .i64 x.level,.int .i64 x.table] 158):=⟨_,rfl⟩);(have hzx:wx.heap.size=wr.heap.size+1:=by rw[hwx];simp);(have y0:wx.cell? ⟨wr.heap.size,0,none⟩=some (.int .i64 x.page):=by rw[hwx];simp[go_sem]);(have y1:wx.cell? ⟨wr.heap.size,1,none⟩=some (.int .i64 (16*Ab x.level)):=by rw[hwx];simp[go_sem]);(have y2:wx.cell? ⟨wr.heap.size,2,none⟩=some (.bool x.doom):=by rw[hwx];simp[go_sem]);(have y3:wx.cell? ⟨wr.heap.size,3,none⟩=some (.int .i64 x.level):=by rw[hwx];simp[go_sem]);(have y4:wx.cell? ⟨wr.heap.size,4,none⟩=some (.int .i64 x.table):=by rw[hwx];simp[go_sem]);(have bx:Below (w.heap.size+1) wb wx:=by rw[hwx];exact HBk.out.alloc (by omega) _);have hcv:=GO wr.heap.size 0 x.page (16*Ab x.level) page ⟨ep0,by omega⟩ ⟨by omega,by omega⟩ ⟨hp0,by omega⟩ wx y0 y1;have HTX:Hid (DM x=.agg #[.int .i64 x.page,.int .i64 (16*Ab x.level),.bool x.doom,.int .i64 x.level,.int .i64 x.table]):=rfl;rw[hmt,hwx] at hcv;have HWX:Hid (wx=_):=hwx;have HBX:Hid _:=bx;have HY:Hid (wx.cell? ⟨wr.heap.size,0,none⟩=some (.int .i64 x.page)/\wx.cell? ⟨wr.heap.size,1,none⟩=some (.int .i64 (16*Ab x.level))/\wx.cell? ⟨wr.heap.size,2,none⟩=some (.bool x.doom)/\wx.cell? ⟨wr.heap.size,3,none⟩=some (.int .i64 x.level)/\wx.cell? ⟨wr.heap.size,4,none⟩=some (.int .i64 x.table)):=⟨y0,y1,y2,y3,y4⟩;clear hwx bx y0 y1 y2 y3 y4 hmt;generalize 16*Ab x.level=X1 at *;by_cases hx:x.level=l
      ·(have hx':(x.level==l)=true:=by simpa using hx);cases hcw:DO x page
       ·(have hv:CX M page l k=false:=by rw[HSV.out];simp[hcw]);rw[hcw] at hcv;have HV:Hid _:=hv;clear hx hv hcw c0 c1 c2 c3 c4 f0 f1 f2 f3 f4;(go_wp2_with fail);refine hcv.mono ?_;rintro e w1 ⟨rfl,hb1'⟩;(have hb1:Below wx.heap.size wx w1:=by rw[HWX.out];exact hb1');have HB1:Hid (Below (w.heap.size+1) wb w1):=HBX.out.trans (hb1.mono (by omega));clear hb1' hb1 hcv;(go_wp2_with fail);go_roundw;(case rel=>exact⟨k+1,by omega,by go_num,fun j hj=>if h:j=k then h ▸ HV.out else HNK.out j (by omega),HB1.out⟩);case measure=>simp[intOf];omega
       ·have hv:Ar M page choice=x:=HFIN.out (by rw[HSV.out];simp[hx,hcw]);rw[hcw] at hcv;have HV:Hid _:=hv;clear hx hv hcw c0 c1 c2 c3 c4 f0 f1 f2 f3 f4;(go_wp2_with fail);refine hcv.mono ?_;rintro e w1 ⟨rfl,hb1'⟩;(have hb1:Below wx.heap.size wx w1:=by rw[HWX.out];exact hb1');have B1:Below (w.heap.size+1) wb w1:=HBX.out.trans (hb1.mono (by omega));obtain⟨y0,y1,y2,y3,y4⟩:=HY.out;have z0:=(hb1.cell (p:=⟨wr.heap.size,0,none⟩) (by simp;omega)).trans y0;have z1:=(hb1.cell (p:=⟨wr.heap.size,1,none⟩) (by simp;omega)).trans y1;have z2:=(hb1.cell (p:=⟨wr.heap.size,2,none⟩) (by simp;omega)).trans y2;have z3:=(hb1.cell (p:=⟨wr.heap.size,3,none⟩) (by simp;omega)).trans y3;have z4:=(hb1.cell (p:=⟨wr.heap.size,4,none⟩) (by simp;omega)).trans y4;obtain⟨q4',c0,c1,c2,c3,c4,f0,f1,f2,f3,f4⟩:=HQ.out w1 B1;have HB1:Hid (Below (w.heap.size+1) wb w1):=B1;clear hb1' hb1 hcv B1 y0 y1 y2 y3 y4 q4' q4;(go_wp2_with fail);exact bodyPost_ret (v:=.agg #[.int .i64 x.page,.int .i64 X1,.bool x.doom,.int .i64 x.level,.int .i64 x.table]) (by simp[results,results132,go_sem,c0,c1,c2,c3,c4]) rfl ⟨by rw[HV.out,HTX.out],((((((HBB.out.trans (HB1.out.mono (by omega))).setCell (by simp) _).setCell (by simp) _).setCell (by simp) _).setCell (by simp) _).setCell (by simp) _)⟩
      ·(have hx':(x.level==l)=false:=by simpa using hx);(have hv:CX M page l k=false:=by rw[HSV.out];simp[hx]);have HV:Hid _:=hv;clear hx hv hcv c0 c1 c2 c3 c4 f0 f1 f2 f3 f4;(go_wp2_with fail);go_roundw;(case rel=>exact⟨k+1,by omega,by go_num,fun j hj=>if h:j=k then h ▸ HV.out else HNK.out j (by omega),HBk.out.alloc (by omega) _⟩);case measure=>simp[intOf];omega
     ·(have e:k=M.wc.length:=by omega);subst e;have HNK:Hid (Es M page l):=hnk;have HBk:Hid _:=hb;(have L2:¬(M.wc.length:Int)<(M.wc.length:Int):=by omega);clear hb hnk c0 c1 c2 c3 c4 f0 f1 f2 f3 f4;(go_wp2_with fail);go_roundw;(case rel=>exact⟨l-1,rfl,by omega,by omega,fun l' h1 h2=>if h:l'=l then h ▸ HNK.out else HAB.out l' (by omega) h2,HBk.out⟩);case measure=>simp[intOf];omega
   ·(have e:l=1:=by omega);subst e;have HV:Hid _:=GU (choice:=choice) (hab 2 (by omega) (by omega)) (hab 3 (by omega) (by omega));have HB:Hid _:=hb;clear hab hb hlt q4;(go_wp2_with fail);exact bodyPost_ret (v:=DM ⟨1,0,0,false⟩) (by simp[results,results132,go_sem,c0,c1,c2,c3,c4,DM,show Ab 1=256 from rfl]) rfl ⟨by rw[HV.out],((((((HBB.out.trans (HB.out.mono (by omega))).setCell (by simp) _).setCell (by simp) _).setCell (by simp) _).setCell (by simp) _).setCell (by simp) _)⟩
end Go.Proofs.YtnmhkgmmpkjjeabGreat
