import Derived.Test.YtnmhkgmmpkjjeabGreatE18
namespace Go.Proofs.YtnmhkgmmpkjjeabGreat
open ChangeShapes WideShapes ChangeAt RowKit Proofs.Tryz
set_option linter.all false
set_option maxRecDepth 100000
set_option maxHeartbeats 4000000
attribute [local go_sem ↓] wp_at_zero wp_at_succ
theorem KD(v:Value)(B:Nat)(xs:List Am)(e:Am)(w:World)(hn:xs.length<=256)(hv:A6 At w B v xs):Calls prog 164 #[v,IV e] w fun r w'=>∃k:Int,r=.returned (.int .i64 k)/\decide (0<=k)=BW (fun i=>Az (A8 At xs i) e) xs.length/\Below w.heap.size w w':=by
 obtain⟨a,c,rfl,haf⟩:=hv.form;unfold IV;obtain⟨wb,hwb⟩:∃wb,wb=w.alloc (.cells #[.int .i64 (e.page),.int .i64 (e.size),.bool (e.doom),.int .i64 (e.out),.int .i64 (e.perm)] 156):=⟨_,rfl⟩
 have hbb:Below w.heap.size w wb:=by rw[hwb];exact(Below.refl _ _).alloc (Nat.le_refl _) _
 have q0:wb.cell? ⟨w.heap.size,0,none⟩=some (.int .i64 (e.page)):=by rw[hwb];simp[go_sem]
 have q1:wb.cell? ⟨w.heap.size,1,none⟩=some (.int .i64 (e.size)):=by rw[hwb];simp[go_sem]
 have q2:wb.cell? ⟨w.heap.size,2,none⟩=some (.bool (e.doom)):=by rw[hwb];simp[go_sem]
 have q3:wb.cell? ⟨w.heap.size,3,none⟩=some (.int .i64 (e.out)):=by rw[hwb];simp[go_sem]
 have q4:wb.cell? ⟨w.heap.size,4,none⟩=some (.int .i64 (e.perm)):=by rw[hwb];simp[go_sem]
 have HWB:Hid (wb=_):=hwb;have HBB:Hid (Below _ w wb):=hbb;have HF:Hid _:=haf;clear hwb hbb haf hv;go_enter func164,ntmps164
 go_wp2_with fail
 go_loopw [8] (fun iv wr=>∃k:Nat,k<=xs.length/\iv=.int .i64 k/\BW (fun i=>Az (A8 At xs i) e) k=false/\∃n,wr=wb.drewN n) (fun iv _=>xs.length-(intOf iv).toNat)
 case atStart=>exact⟨0,Nat.zero_le _,rfl,rfl,0,HWB.out.symm⟩
 case round =>
  obtain⟨k,hk,rfl,hany,nd,rfl⟩:=hrel;by_cases hlt:k<xs.length
  ·obtain⟨g,N,f,hag,_,hr,hN,hf⟩:=HF.out (by omega);subst hag;have hN':xs.length*5<=N:=hN;have hr1:wb.rowIs g 156 N f:=hr.of_block (HBB.out.block g hr.lt);have k0:=hr1.cell (i:=k*5) (by omega);rw[show f (k*5)=.int .i64 ((A8 At xs k).page) from hf k hlt 0 (by decide)] at k0;have k1:=hr1.cell (i:=k*5+1) (by omega);rw[show f (k*5+1)=.int .i64 ((A8 At xs k).size) from hf k hlt 1 (by decide)] at k1;have k2:=hr1.cell (i:=k*5+2) (by omega);rw[show f (k*5+2)=.bool ((A8 At xs k).doom) from hf k hlt 2 (by decide)] at k2;have k3:=hr1.cell (i:=k*5+3) (by omega);rw[show f (k*5+3)=.int .i64 ((A8 At xs k).out) from hf k hlt 3 (by decide)] at k3;have k4:=hr1.cell (i:=k*5+4) (by omega);rw[show f (k*5+4)=.int .i64 ((A8 At xs k).perm) from hf k hlt 4 (by decide)] at k4;(have hst:BW (fun i=>Az (A8 At xs i) e) (k+1)=Az (A8 At xs k) e:=by rw[Ck,hany,Bool.false_or]);(have hyes:Az (A8 At xs k) e=true->BW (fun i=>Az (A8 At xs i) e) xs.length=true:=fun h=>BF _ k _ hlt h);(have L1:(0:Int)<=(k:Int):=by omega);(have L2:(k:Int)<(xs.length:Int):=by omega);have hgl:=hr1.lt;have HST:Hid _:=hst;have HYES:Hid _:=hyes;clear hst hyes hany hr1 hr hf hN;generalize A8 At xs k=x at *;by_cases h0:e.page=x.page
   ·(have h0':(e.page==x.page)=true:=by simpa using h0);by_cases h1:e.size=x.size
    ·(have h1':(e.size==x.size)=true:=by simpa using h1);by_cases h2:e.doom=x.doom
     ·(have h2':(e.doom==x.doom)=true:=by simpa using h2);by_cases h3:e.out=x.out
      ·(have h3':(e.out==x.out)=true:=by simpa using h3);by_cases h4:e.perm=x.perm
       ·(have h4':(e.perm==x.perm)=true:=by simpa using h4);have hv:Az x e=true:=by
         simp[Az,BH,h0,h1,h2,h3,h4]
        have HV:Hid _:=HYES.out hv;clear hv h0 h1 h2 h3 h4;(go_wp2_with fail);(go_quiet (fail));(go_wp2_with fail);go_ret;exact⟨_,rfl,by rw[HV.out];simp,AS (AS HBB.out _) _⟩
       ·(have h4':(e.perm==x.perm)=false:=by simpa using h4);have hv:Az x e=false:=by
         simp only[Az,BH,Bool.and_eq_false_iff,decide_eq_false_iff_not];exact .inl (.inr (fun h=>h4 h.symm))
        clear h0 h1 h2 h3 h4;have HV:Hid (Az x e=false):=hv;clear hv;(go_wp2_with fail);(go_quiet (fail));(go_wp2_with fail);go_roundw;(case rel=>exact⟨k+1,by omega,by go_num,by rw[HST.out,HV.out],_,rfl⟩);case measure=>simp[intOf];omega
      ·(have h3':(e.out==x.out)=false:=by simpa using h3);have hv:Az x e=false:=by
        simp only[Az,BH,Bool.and_eq_false_iff,decide_eq_false_iff_not];exact .inl (.inl (.inr (fun h=>h3 h.symm)))
       clear h0 h1 h2 h3;have HV:Hid (Az x e=false):=hv;clear hv;(go_wp2_with fail);(go_quiet (fail));(go_wp2_with fail);go_roundw;(case rel=>exact⟨k+1,by omega,by go_num,by rw[HST.out,HV.out],_,rfl⟩);case measure=>simp[intOf];omega
     ·(have h2':(e.doom==x.doom)=false:=by simpa using h2);have hv:Az x e=false:=by
       simp only[Az,BH,Bool.and_eq_false_iff,beq_eq_false_iff_ne];exact .inr (fun h=>h2 h.symm)
      clear h0 h1 h2;have HV:Hid (Az x e=false):=hv;clear hv;(go_wp2_with fail);(go_quiet (fail));(go_wp2_with fail);go_roundw;(case rel=>exact⟨k+1,by omega,by go_num,by rw[HST.out,HV.out],_,rfl⟩);case measure=>simp[intOf];omega
    ·(have h1':(e.size==x.size)=false:=by simpa using h1);have hv:Az x e=false:=by
      simp only[Az,BH,Bool.and_eq_false_iff,decide_eq_false_iff_not];exact .inl (.inl (.inl (.inr (fun h=>h1 h.symm))))
     clear h0 h1;have HV:Hid (Az x e=false):=hv;clear hv;(go_wp2_with fail);(go_quiet (fail));(go_wp2_with fail);go_roundw;(case rel=>exact⟨k+1,by omega,by go_num,by rw[HST.out,HV.out],_,rfl⟩);case measure=>simp[intOf];omega
   ·(have h0':(e.page==x.page)=false:=by simpa using h0);have hv:Az x e=false:=by
     simp only[Az,BH,Bool.and_eq_false_iff,decide_eq_false_iff_not];exact .inl (.inl (.inl (.inl (fun h=>h0 h.symm))))
    clear h0;have HV:Hid (Az x e=false):=hv;clear hv;(go_wp2_with fail);(go_quiet (fail));(go_wp2_with fail);go_roundw;(case rel=>exact⟨k+1,by omega,by go_num,by rw[HST.out,HV.out],_,rfl⟩);case measure=>simp[intOf];omega
  ·(have e0:k=xs.length:=by omega);subst e0;(have L2:¬(xs.length:Int)<(xs.length:Int):=by omega);have HV:Hid _:=hany;clear hany;(go_wp2_with fail);go_ret;exact⟨_,rfl,by rw[HV.out];decide,AS HBB.out _⟩
theorem Jf(v:Value)(B:Nat)(xs:List Am)(e:Am)(w:World)(hn:xs.length<=256)(hv:A6 At w B v xs):Calls prog 159 #[v,IV e] w fun r w'=>r=.returned (.bool (BW (fun i=>Az (A8 At xs i) e) xs.length))/\Below w.heap.size w w':=by
 have hb1:Below w.heap.size w (w.alloc (.cells #[.int .i64 (e.page),.int .i64 (e.size),.bool (e.doom),.int .i64 (e.out),.int .i64 (e.perm)] 156)):=(Below.refl _ _).alloc (Nat.le_refl _) _;have h:=KD v B xs e _ hn (hv.below hb1);obtain⟨a,c,rfl,_⟩:=hv.form;unfold IV at h ⊢;have HB1:Hid _:=hb1;clear hv hb1;go_enter func159,ntmps159
 go_wp2_with fail
 refine h.mono ?_;rintro r w1 ⟨k,rfl,hk,hb⟩;have HB:Hid (Below w.heap.size w w1):=HB1.out.trans (hb.mono (by simp));clear hb h;cases hR:BW (fun i=>Az (A8 At xs i) e) xs.length<;>rw[hR] at hk<;>(have HR:Hid _:=hR)<;>clear hR
 ·go_wp2_with fail
  go_ret;exact⟨by rw[HR.out];rfl,HB.out⟩
 ·go_wp2_with fail
  go_ret;exact⟨by rw[HR.out];rfl,HB.out⟩
def Bd (xs:List Am) (e:Am):List Am:=if BW (fun i=>Az (A8 At xs i) e) xs.length||decide (256<=xs.length) then xs else xs++[e]
set_option maxRecDepth 100000 in
theorem Jw(a:Option Addr)(c:Nat)(B:Nat)(xs:List Am)(e:Am)(w:World)(hn:xs.length<=256)(hB:B<=w.heap.size)(hv:A6 At w B (.slice a xs.length c) xs):Calls prog 152 #[.slice a xs.length c,IV e,.int .i64 256] w fun r w'=>∃a' c',r=.returned (.slice a' (Bd xs e).length c')/\A6 At w' B (.slice a' (Bd xs e).length c') (Bd xs e)/\w.grownBy w' (Al a)/\(∀k,Al a'=some k->Al a=some k\/w.heap.size<=k):=by
 obtain⟨iE,hiE,hz0,hz1,hz2⟩:=info_parts Hx;obtain⟨wb,hwb⟩:∃wb,wb=w.alloc (.cells #[.int .i64 (e.page),.int .i64 (e.size),.bool (e.doom),.int .i64 (e.out),.int .i64 (e.perm)] 156):=⟨_,rfl⟩
 have hbb:Below w.heap.size w wb:=by rw[hwb];exact(Below.refl _ _).alloc (Nat.le_refl _) _
 have hzb:wb.heap.size=w.heap.size+1:=by rw[hwb];simp
 have hh:=Jf (.slice a xs.length c) B xs e wb hn (hv.below hbb);have keep:∀wX,Below w.heap.size w wX->Bd xs e=xs->∃a' c',Ending.returned (.slice a xs.length c)=.returned (.slice a' (Bd xs e).length c')/\A6 At wX B (.slice a' (Bd xs e).length c') (Bd xs e)/\w.grownBy wX (Al a)/\(∀k,Al a'=some k->Al a=some k\/w.heap.size<=k):=by
  intro wX hX he;rw[he];exact⟨a,c,rfl,hv.below hX,⟨hX.os,hX.tape,hX.output,hX.size,fun k hk _=>hX.block k hk⟩,fun k hk=>.inl hk⟩
 have HK:Hid _:=keep;by_cases hf:256<=xs.length
 ·have he:Bd xs e=xs:=by unfold Bd;simp[hf]
  have L:(256:Int)<=(xs.length:Int):=by omega
  have HE:Hid _:=he;clear hh he keep;unfold IV;rw[hwb] at hbb;have HBB:Hid _:=hbb;clear hwb hbb hzb;go_enter func152,ntmps152
  go_wp2_with fail
  go_ret;exact HK.out _ HBB.out HE.out
 ·have L:(xs.length:Int)<256:=by omega
  cases hR:BW (fun i=>Az (A8 At xs i) e) xs.length
  ·(have he:Bd xs e=xs++[e]:=by unfold Bd;simp[hR];omega);rw[hR] at hh;rw[he];(have hlen:(xs++[e]).length=xs.length+1:=by simp);rw[hlen];have HWB:Hid (wb=_):=hwb;have HBB:Hid (Below _ w wb):=hbb;have HV:Hid (A6 At w B _ xs):=hv;(have HLT:Hid (∀k,Al a=some k->k<w.heap.size):=fun k hk=>(hv.ownA k hk).2);rw[hwb] at hh;clear hbb hv he hwb keep hR hlen;unfold IV at hh ⊢;(go_enter func152,ntmps152);(go_wp2_with fail);refine hh.mono ?_;rintro r w1 ⟨rfl,hb1'⟩;(have hb1:Below wb.heap.size wb w1:=by rw[HWB.out];exact hb1');have s1:=hb1.size;clear hb1' hh;have x0:w1.cell? ⟨w.heap.size,0,none⟩=some (.int .i64 (e.page)):=(hb1.cell (p:=⟨w.heap.size,0,none⟩) (by simp;omega)).trans (by rw[HWB.out];simp[go_sem]);have x1:w1.cell? ⟨w.heap.size,1,none⟩=some (.int .i64 (e.size)):=(hb1.cell (p:=⟨w.heap.size,1,none⟩) (by simp;omega)).trans (by rw[HWB.out];simp[go_sem]);have x2:w1.cell? ⟨w.heap.size,2,none⟩=some (.bool (e.doom)):=(hb1.cell (p:=⟨w.heap.size,2,none⟩) (by simp;omega)).trans (by rw[HWB.out];simp[go_sem]);have x3:w1.cell? ⟨w.heap.size,3,none⟩=some (.int .i64 (e.out)):=(hb1.cell (p:=⟨w.heap.size,3,none⟩) (by simp;omega)).trans (by rw[HWB.out];simp[go_sem]);have x4:w1.cell? ⟨w.heap.size,4,none⟩=some (.int .i64 (e.perm)):=(hb1.cell (p:=⟨w.heap.size,4,none⟩) (by simp;omega)).trans (by rw[HWB.out];simp[go_sem]);have hown:w1.ownsRow B 156 5 (.slice a xs.length c) xs.length (AF At xs):=HV.out.below (HBB.out.trans (hb1.mono (by omega)));have HB1:Hid (Below w.heap.size w w1):=HBB.out.trans (hb1.mono (by omega));have HEC:Hid (At.enc e=[.int .i64 (e.page),.int .i64 (e.size),.bool (e.doom),.int .i64 (e.out),.int .i64 (e.perm)]):=rfl;have HOWN:Hid _:=hown;clear hb1 hown;(go_wp2_with (at_builtin;refine wpList_append_lies _ rfl (.tmp 17) (.tmp 19) 149 rfl B 156 iE _ 5 40 underlying149 hiE hz0 hz1 hz2 rfl (by omega) _ _ _ rfl (World.ownsRow.alloc HOWN.out _) ⟨w1.heap.size,0,none⟩ 1 1 [.int .i64 (e.page),.int .i64 (e.size),.bool (e.doom),.int .i64 (e.out),.int .i64 (e.perm)] rfl rfl ?c1 ?c2 (by omega) ?c3 ?c4 ?c5 (w1.heap.size+1) ?c6 ?_));(case c1=>exact World.news_of_block (heap_alloc_new w1 (.cells #[.int .i64 (e.page),.int .i64 (e.size),.bool (e.doom),.int .i64 (e.out),.int .i64 (e.perm)] 156)));(case c2=>intro u hu;simp at hu;rcases hu with rfl|rfl|rfl|rfl|rfl<;>rfl);(case c3=>unfold maxLen;omega);(case c4=>omega);(case c5=>simp;omega);(case c6=>simp);intro g1 cap1 wn hown hgrow hat hlt3;rw[<- HEC.out] at hown;have hnew:A6 At wn B (.slice (some ⟨g1,0,none⟩) (xs.length+1) cap1) (xs++[e]):=by
    (have h2:AF At (xs++[e])=AF At xs++At.enc e:=by rw[C8];simp[AF]);unfold A6;rw[h2,List.length_append];exact hown
   have hg2:w.grownBy wn (Al a):=by
    rw[AQ] at hgrow;have hB1:=HB1.out
    exact⟨hgrow.os.trans hB1.os,hgrow.tape.trans hB1.tape,hgrow.output.trans hB1.output,by have h3:=hgrow.size;have h4:=hB1.size;rw[World.size_alloc] at h3;omega,fun k hk hn=>by
     have h3:=hgrow.block k (by have:=hB1.size;simp;omega) hn
     rw[h3,heap_alloc_old w1 _ (by have:=hB1.size;omega)]
     exact hB1.block k hk⟩
   have ho:∀k,Al (some ⟨g1,0,none⟩)=some k->Al a=some k\/w.heap.size<=k:=fun k hk=>by
    rw[AQ] at hat;(have:g1=k:=by simpa [Al,Value.ownBlock] using hk);subst this;rcases hat with h'|h'
    ·exact .inl h'
    ·have:=HB1.out.size;exact .inr (by omega)
   have HNEW:Hid _:=hnew;have HG2:Hid _:=hg2;clear hown hgrow hat hnew hg2 x0 x1 x2 x3 x4;(go_wp2_with fail);go_ret;exact⟨_,_,rfl,HNEW.out,HG2.out,ho⟩
  ·(have he:Bd xs e=xs:=by unfold Bd;simp[hR]);rw[hR] at hh;have HWB:Hid (wb=_):=hwb;have HBB:Hid (Below _ w wb):=hbb;have HE:Hid _:=he;rw[hwb] at hh;clear hbb he hwb keep hR hv;unfold IV at hh ⊢;(go_enter func152,ntmps152);(go_wp2_with fail);refine hh.mono ?_;rintro r w1 ⟨rfl,hb1'⟩;(have hb1:Below wb.heap.size wb w1:=by rw[HWB.out];exact hb1');have HB1:Hid (Below w.heap.size w w1):=HBB.out.trans (hb1.mono (by omega));clear hb1' hh hb1;(go_wp2_with fail);go_ret;exact HK.out _ HB1.out HE.out
theorem Gb(M:A9)(e:Am):Aa M e=⟨M.mem,M.pend,Bd M.tlb e,M.wc⟩:=by
 by_cases h:(BW (fun i=>Az (A8 At M.tlb i) e) M.tlb.length||decide (256<=M.tlb.length))=true
 ·have h1:Bd M.tlb e=M.tlb:=if_pos h;have h2:Aa M e=M:=if_pos h;rw[h1,h2]
 ·have h1:Bd M.tlb e=M.tlb++[e]:=if_neg h;have h2:Aa M e=⟨M.mem,M.pend,M.tlb++[e],M.wc⟩:=if_neg h;rw[h1,h2]
theorem Kg(M:A9)(e:CI):Aq M e=⟨M.mem,M.pend,M.tlb,Bn M.wc e⟩:=by
 by_cases h:(BW (fun i=>BY (A8 As M.wc i) e) M.wc.length||decide (256<=M.wc.length))=true
 ·have h1:Bn M.wc e=M.wc:=if_pos h;have h2:Aq M e=M:=if_pos h;rw[h1,h2]
 ·have h1:Bn M.wc e=M.wc++[e]:=if_neg h;have h2:Aq M e=⟨M.mem,M.pend,M.tlb,M.wc++[e]⟩:=if_neg h;rw[h1,h2]
theorem Mm(l x:Int)(h:AZ l x=2):l=2:=by
 unfold AZ at h;repeat' split at h
 all_goals first|omega|simp_all
theorem Kf(l x:Int)(h:AZ l x=3):l=3:=by
 unfold AZ at h;repeat' split at h
 all_goals first|omega|simp_all
theorem Li(gu b0 B:Nat)(L:Bool)(u:UV)(M:A9)(page choice:Int)(at':CI)(K O P:Int)(hK:¬K=2/\¬K=3)(w:World)(h:UM w gu b0 B L u M):Calls prog 137 #[.pointer (some ⟨gu,0,none⟩),DM at',.agg #[.int .i64 K,.int .i64 O,.int .i64 P],.int .i64 page,.int .i64 choice] w fun r w'=>r=.returned (DE (if K=0 then ⟨0,0,0,0⟩ else ⟨3,0,0,0⟩))/\Below w.heap.size w w':=by
 unfold DM DE;generalize 16*Ab at'.level=X1;have k2:(K != 2)=true:=by simpa using hK.1
 have k3:(K != 3)=true:=by simpa using hK.2
 by_cases h0:K=0
 ·subst h0;clear hK k2 k3;go_enter func137,ntmps137
  go_wp2_with fail
  exact bodyPost_ret (v:=.agg #[.int .i64 0,.int .i64 0,.int .i64 0,.int .i64 0]) (by simp[results,results137,go_sem]) rfl ⟨by simp,((((Below.refl _ _).alloc (Nat.le_refl _) _).alloc (by simp) _).alloc (by simp<;>omega) _)⟩
 ·have k0:(K==0)=false:=by simpa using h0
  rw[if_neg h0];clear hK h0;go_enter func137,ntmps137
  go_wp2_with fail
  exact bodyPost_ret (v:=.agg #[.int .i64 3,.int .i64 0,.int .i64 0,.int .i64 0]) (by simp[results,results137,go_sem]) rfl ⟨by simp,((((Below.refl _ _).alloc (Nat.le_refl _) _).alloc (by simp) _).alloc (by simp<;>omega) _)⟩
theorem N8(gu b0 B:Nat)(L:Bool)(u:UV)(M:A9)(page choice:Int)(at':CI)(K O P S:Int)(hK:K=2\/K=3)(hS:S=1\/S=16)(hcov:Ab at'.level=S)(hO:0<=O/\O<65536)(hp0:0<=page)(hp1:page<4096)(hc0:0<=choice)(hc1:choice<=65535)(hn:M.tlb.length<=256)(w:World)(hB:B<=w.heap.size)(h:UM w gu b0 B L u M):Calls prog 137 #[.pointer (some ⟨gu,0,none⟩),DM at',.agg #[.int .i64 K,.int .i64 O,.int .i64 P],.int .i64 page,.int .i64 choice] w fun r w'=>r=.returned (DE ⟨1,O+page%S,P,S⟩)/\∃u',AT w w' gu b0 B L u u' (if BT choice 6 then Aa M ⟨page-page%S,S,O,P,at'.doom⟩ else M):=by
 have hh:=DU choice 6 64 rfl (by omega) hc0 hc1;generalize BT choice 6=bt at hh ⊢;have hep:=Bc at'.level;rw[hcov] at hep;unfold DM DE;have HX1:Hid (16*Ab at'.level=16*S):=by rw[hcov];exact rfl
 generalize 16*Ab at'.level=X1;obtain⟨wb,hwb⟩:∃wb,wb=((w.alloc (.cells #[.int .i64 at'.page,.int .i64 X1,.bool at'.doom,.int .i64 at'.level,.int .i64 at'.table] 158)).alloc (.cells #[.int .i64 K,.int .i64 O,.int .i64 P] 185)).alloc (.cells #[.int .i64 0,.int .i64 0,.int .i64 0,.int .i64 0] 87):=⟨_,rfl⟩
 have hbb:Below w.heap.size w wb:=by rw[hwb];exact(((Below.refl _ _).alloc (Nat.le_refl _) _).alloc (by simp) _).alloc (by simp<;>omega) _
 have hzb:wb.heap.size=w.heap.size+3:=by rw[hwb];simp
 have HQ:Hid (∀wX,Below wb.heap.size wb wX->wX.cell? ⟨w.heap.size,2,none⟩=some (.bool at'.doom)/\wX.cell? ⟨w.heap.size,3,none⟩=some (.int .i64 at'.level)/\wX.cell? ⟨w.heap.size+1,1,none⟩=some (.int .i64 O)/\wX.cell? ⟨w.heap.size+1,2,none⟩=some (.int .i64 P)):=fun wX hX =>
  ⟨(hX.cell (by simp;omega)).trans (by rw[hwb];simp[go_sem]),(hX.cell (by simp;omega)).trans (by rw[hwb];simp[go_sem]),(hX.cell (by simp;omega)).trans (by rw[hwb];simp[go_sem]),(hX.cell (by simp;omega)).trans (by rw[hwb];simp[go_sem])⟩
 have HWI:Hid (∀wX,Below wb.heap.size wb wX->Calls prog 138 #[.pointer (some ⟨w.heap.size,0,none⟩),.int .i64 page,.int .i64 S] wX fun e w'=>e=.returned (.agg #[.int .i64 (page-page%S),.int .i64 S,.bool at'.doom])/\Below wX.heap.size wX w'):=fun wX hX=>GQ w.heap.size 0 page S at'.doom hp0 (by omega) (by omega) wX (by have:=hX.size;omega) (HQ.out wX hX).1
 have HWB:Hid (wb=_):=hwb;have HBB:Hid (Below _ w wb):=hbb;have HZ:Hid (wb.heap.size=w.heap.size+3):=hzb;have HUM:Hid _:=h;obtain⟨q1,q2,q3,q4⟩:=HQ.out wb (Below.refl _ _);rw[hwb] at q1 q2 q3 q4;clear hwb hbb hzb h q1 q2 q3 q4;have HADD:Hid (∀wX,Below w.heap.size w wX->Calls prog 152 #[.slice u.a4 M.tlb.length u.c4,.agg #[.int .i64 (page-page%S),.int .i64 S,.bool at'.doom,.int .i64 O,.int .i64 P],.int .i64 256] wX fun r w'=>∃a' c',r=.returned (.slice a' (Bd M.tlb ⟨page-page%S,S,O,P,at'.doom⟩).length c')/\A6 At w' B (.slice a' (Bd M.tlb ⟨page-page%S,S,O,P,at'.doom⟩).length c') (Bd M.tlb ⟨page-page%S,S,O,P,at'.doom⟩)/\wX.grownBy w' u.o4/\(∀k,Al a'=some k->u.o4=some k\/wX.heap.size<=k)):=fun wX hX=>Jw u.a4 u.c4 B M.tlb ⟨page-page%S,S,O,P,at'.doom⟩ wX hn (Nat.le_trans hB hX.size) (HUM.out.t.below hX)
 have hmod0:0<=page%S:=Int.emod_nonneg _ (by omega);have hmod1:page%S<=page:=by rcases hS with rfl|rfl<;>omega
 have HOUT:Hid (O+page-(page-page%S)=O+page%S):=by show _=_;omega
 rcases hK with rfl|rfl;all_goals
  go_enter func137,ntmps137
  go_upto_region 5 with fail
  rw[<- HWB.out]
  go_cut [11] (fun d wx=>∃E,d=.pointer (some ⟨E,0,none⟩)/\wx.cell? ⟨E,0,none⟩=some (.int .i64 (page-page%S))/\wx.cell? ⟨E,1,none⟩=some (.int .i64 S)/\wx.cell? ⟨E,2,none⟩=some (.bool at'.doom)/\wx.cell? ⟨E,3,none⟩=some (.int .i64 O)/\wx.cell? ⟨E,4,none⟩=some (.int .i64 P)/\wb.heap.size<=E/\E<wx.heap.size/\Below wb.heap.size wb wx)
  case first =>
   obtain⟨q1,q2,q3,q4⟩:=HQ.out wb (Below.refl _ _)
   go_region_held3 (fun wX=>wX.cell? ⟨w.heap.size,2,none⟩=some (.bool at'.doom)/\wX.cell? ⟨w.heap.size,3,none⟩=some (.int .i64 at'.level)/\wX.cell? ⟨w.heap.size+1,1,none⟩=some (.int .i64 O)/\wX.cell? ⟨w.heap.size+1,2,none⟩=some (.int .i64 P))
    ((refine HQ.out _ ?_;repeat (first|exact Below.refl _ _|with_reducible refine Below.drew ?_|with_reducible refine Below.setCell ?_ (by first|omega|(simp<;>omega)) _|with_reducible refine Below.alloc ?_ (by first|omega|(simp<;>omega)) _|refine Below.trans ?_ (hb1.mono (by first|omega|(simp<;>omega))))))
    (first
     | (go_at_call 128;refine(hep _).mono ?_;rintro e wE ⟨rfl,rfl⟩)
     | (go_at_call 138;refine(HWI.out _ (by repeat (first|exact Below.refl _ _|with_reducible refine Below.drew ?_|with_reducible refine Below.alloc ?_ (by first|omega|(simp<;>omega)) _))).mono ?_;rintro e w1 ⟨rfl,hb1⟩;obtain⟨hc1,hf1⟩:=GN hb1;have hz1:=hb1.size;simp at hz1))
   all_goals
    go_wp2_with fail
    go_meet
    case rel =>
     refine⟨_,rfl,?_,?_,?_,?_,?_,?_,?_,?_⟩
     ·simp[go_sem,hc1]
     ·simp[go_sem,hc1]
     ·simp[go_sem,hc1]
     ·simp[go_sem,hc1]
     ·simp[go_sem,hc1]
     ·first|omega|(simp<;>omega)
     ·first|omega|(simp<;>omega)
     ·repeat (first|exact Below.refl _ _|with_reducible refine Below.drew ?_|with_reducible refine Below.setCell ?_ (by first|omega|(simp<;>omega)) _|with_reducible refine Below.alloc ?_ (by first|omega|(simp<;>omega)) _|refine Below.trans ?_ (hb1.mono (by first|omega|(simp<;>omega))))
  case rest =>
   obtain⟨wx,rfl⟩:∃wx:World,wx=wc:=⟨_,rfl⟩
   obtain⟨E,rfl,y0,y1,y2,y3,y4,hE0,hE1,hbx⟩:=hcut
   have hzb:=HZ.out
   have bx:Below w.heap.size w wx:=HBB.out.trans (hbx.mono (by omega))
   have ux:=HUM.out.below bx
   have r0:wx.cell? ⟨w.heap.size+2,0,none⟩=some (.int .i64 0):=(hbx.cell (by simp;omega)).trans (by rw[HWB.out];simp[go_sem])
   have r1:wx.cell? ⟨w.heap.size+2,1,none⟩=some (.int .i64 0):=(hbx.cell (by simp;omega)).trans (by rw[HWB.out];simp[go_sem])
   have r2:wx.cell? ⟨w.heap.size+2,2,none⟩=some (.int .i64 0):=(hbx.cell (by simp;omega)).trans (by rw[HWB.out];simp[go_sem])
   have r3:wx.cell? ⟨w.heap.size+2,3,none⟩=some (.int .i64 0):=(hbx.cell (by simp;omega)).trans (by rw[HWB.out];simp[go_sem])
   have g0:wx.frozen? ⟨w.heap.size+2,0,none⟩=false:=(hbx.frozen (by simp;omega)).trans (by rw[HWB.out];simp[go_sem])
   have g1:wx.frozen? ⟨w.heap.size+2,1,none⟩=false:=(hbx.frozen (by simp;omega)).trans (by rw[HWB.out];simp[go_sem])
   have g2:wx.frozen? ⟨w.heap.size+2,2,none⟩=false:=(hbx.frozen (by simp;omega)).trans (by rw[HWB.out];simp[go_sem])
   have g3:wx.frozen? ⟨w.heap.size+2,3,none⟩=false:=(hbx.frozen (by simp;omega)).trans (by rw[HWB.out];simp[go_sem])
   have lt:=HUM.out.lt
   have HUX:Hid _:=ux
   have HBX:Hid (Below w.heap.size w wx):=bx
   cases bt
   ·have HIF:Hid ((if false=true then Aa M ⟨page-page%S,S,O,P,at'.doom⟩ else M)=M):=rfl
    have hht:=I7 E 0 page (page-page%S) S O P hp0 (by omega) (by omega) (by omega) hO.1 (by omega) wx hE1 y0 y1 y3 y4
    clear ux bx hbx y0 y1 y2 y3 y4
    go_wp2_with (go_at_call 103;refine(hh _).mono ?_;rintro e wE ⟨rfl,hwE⟩;obtain rfl:=hwE.symm)
    refine hht.mono ?_
    rintro e w2 ⟨rfl,hb2⟩
    have sx:=hb2.size
    have z0:=(hb2.cell (p:=⟨w.heap.size+2,0,none⟩) (by simp;omega)).trans r0
    have z1:=(hb2.cell (p:=⟨w.heap.size+2,1,none⟩) (by simp;omega)).trans r1
    have z2:=(hb2.cell (p:=⟨w.heap.size+2,2,none⟩) (by simp;omega)).trans r2
    have z3:=(hb2.cell (p:=⟨w.heap.size+2,3,none⟩) (by simp;omega)).trans r3
    have f0:=(hb2.frozen (p:=⟨w.heap.size+2,0,none⟩) (by simp;omega)).trans g0
    have f1:=(hb2.frozen (p:=⟨w.heap.size+2,1,none⟩) (by simp;omega)).trans g1
    have f2:=(hb2.frozen (p:=⟨w.heap.size+2,2,none⟩) (by simp;omega)).trans g2
    have f3:=(hb2.frozen (p:=⟨w.heap.size+2,3,none⟩) (by simp;omega)).trans g3
    have HB2:Hid (Below w.heap.size w w2):=HBX.out.trans (hb2.mono (by omega))
    clear hb2 r0 r1 r2 r3 g0 g1 g2 g3 hht
    go_wp2_with fail
    refine bodyPost_ret (v:=.agg #[.int .i64 1,.int .i64 (O+page-(page-page%S)),.int .i64 P,.int .i64 S]) (by simp[results,results137,go_sem,z0,z1,z2,z3]) rfl ⟨by rw[HOUT.out],u,?_⟩
    exact AT.refl HUM.out ((((HB2.out.setCell (by simp<;>omega) _).setCell (by simp<;>omega) _).setCell (by simp<;>omega) _).setCell (by simp<;>omega) _)
   ·have HIF:Hid ((if true=true then Aa M ⟨page-page%S,S,O,P,at'.doom⟩ else M)=⟨M.mem,M.pend,Bd M.tlb ⟨page-page%S,S,O,P,at'.doom⟩,M.wc⟩):=(Gb M _)
    have q3:=ux.q3
    have f3':=ux.f3
    have HE:Hid (∀wX:World,wX.heap[E]?=wx.heap[E]?->wX.cell? ⟨E,0,none⟩=some (.int .i64 (page-page%S))/\wX.cell? ⟨E,1,none⟩=some (.int .i64 S)/\wX.cell? ⟨E,2,none⟩=some (.bool at'.doom)/\wX.cell? ⟨E,3,none⟩=some (.int .i64 O)/\wX.cell? ⟨E,4,none⟩=some (.int .i64 P)):=fun wX hX =>
     ⟨(World.cell?_of_block hX).trans y0,(World.cell?_of_block hX).trans y1,(World.cell?_of_block hX).trans y2,(World.cell?_of_block hX).trans y3,(World.cell?_of_block hX).trans y4⟩
    have HO4:Hid (∀k,u.o4=some k->k<w.heap.size):=fun k hk=>(HUM.out.t.ownA k hk).2
    have HR:Hid (∀wX:World,wX.heap[w.heap.size+2]?=wx.heap[w.heap.size+2]?->wX.cell? ⟨w.heap.size+2,0,none⟩=some (.int .i64 0)/\wX.cell? ⟨w.heap.size+2,1,none⟩=some (.int .i64 0)/\wX.cell? ⟨w.heap.size+2,2,none⟩=some (.int .i64 0)/\wX.cell? ⟨w.heap.size+2,3,none⟩=some (.int .i64 0)/\wX.frozen? ⟨w.heap.size+2,0,none⟩=false/\wX.frozen? ⟨w.heap.size+2,1,none⟩=false/\wX.frozen? ⟨w.heap.size+2,2,none⟩=false/\wX.frozen? ⟨w.heap.size+2,3,none⟩=false):=fun wX hX =>
     ⟨(World.cell?_of_block hX).trans r0,(World.cell?_of_block hX).trans r1,(World.cell?_of_block hX).trans r2,(World.cell?_of_block hX).trans r3,(World.frozen?_of_block hX).trans g0,(World.frozen?_of_block hX).trans g1,(World.frozen?_of_block hX).trans g2,(World.frozen?_of_block hX).trans g3⟩
    have hne:gu≠E:=by omega
    clear ux bx hbx r0 r1 r2 r3 g0 g1 g2 g3
    go_upto_region 7 with(go_at_call 103;refine(hh _).mono ?_;rintro e wE ⟨rfl,hwE⟩;obtain rfl:=hwE.symm)
    go_region_with (go_at_call 152;refine(HADD.out _ (by first|exact HBX.out|exact HBX.out.drew)).mono ?_;rintro e w1 ⟨a',c',rfl,hr1,hg1,ho1⟩;have hE2:=hg1.block E (by simpa using hE1) (fun e=>by have:=HO4.out E e.symm;omega);have hG2:=hg1.block gu (by simp;omega) (fun e=>HUM.out.ap.g4 e.symm);have x3:=(World.cell?_of_block (a:=⟨gu,3,none⟩) hG2).trans q3;have x3f:=(World.frozen?_of_block (a:=⟨gu,3,none⟩) hG2).trans f3')
    all_goals
     have hE3:(w1.setCell ⟨gu,3,none⟩ (.slice a' (Bd M.tlb ⟨page-page%S,S,O,P,at'.doom⟩).length c')).heap[E]?=wx.heap[E]?:=(Below.heap_setCell _ _ _ _ (by exact hne.symm)).trans hE2
     have hR3:(w1.setCell ⟨gu,3,none⟩ (.slice a' (Bd M.tlb ⟨page-page%S,S,O,P,at'.doom⟩).length c')).heap[w.heap.size+2]?=wx.heap[w.heap.size+2]?:=(Below.heap_setCell _ _ _ _ (by show w.heap.size+2≠gu;omega)).trans (hg1.block _ (by simp;omega) (fun e=>by have:=HO4.out _ e.symm;omega))
     have st:=UM.newTlb (HUX.out.below (Below.refl _ _).drew) hg1 a' c' _ hr1 ho1
     have s1:=hg1.size
     simp at s1
     obtain⟨wn,hwn⟩:∃wn,wn=w1.setCell ⟨gu,3,none⟩ (.slice a' (Bd M.tlb ⟨page-page%S,S,O,P,at'.doom⟩).length c'):=⟨_,rfl⟩
     have hzn:wn.heap.size=w1.heap.size:=by rw[hwn];simp
     rw[<- hwn] at hE3 hR3 st ⊢
     obtain⟨y0,y1,y2,y3,y4⟩:=HE.out wn hE3
     obtain⟨r0,r1,r2,r3,g0,g1,g2,g3⟩:=HR.out wn hR3
     have hht:=I7 E 0 page (page-page%S) S O P hp0 (by omega) (by omega) (by omega) hO.1 (by omega) wn (by omega) y0 y1 y3 y4
     have HST:Hid _:=st
     clear st hE3 hR3 hE2 hG2 x3 x3f hr1 hg1 ho1 y0 y1 y2 y3 y4 hwn
     go_wp2_with fail
     refine hht.mono ?_
     rintro e w2 ⟨rfl,hb2⟩
     have sx:=hb2.size
     have z0:=(hb2.cell (p:=⟨w.heap.size+2,0,none⟩) (by simp;omega)).trans r0
     have z1:=(hb2.cell (p:=⟨w.heap.size+2,1,none⟩) (by simp;omega)).trans r1
     have z2:=(hb2.cell (p:=⟨w.heap.size+2,2,none⟩) (by simp;omega)).trans r2
     have z3:=(hb2.cell (p:=⟨w.heap.size+2,3,none⟩) (by simp;omega)).trans r3
     have f0:=(hb2.frozen (p:=⟨w.heap.size+2,0,none⟩) (by simp;omega)).trans g0
     have f1:=(hb2.frozen (p:=⟨w.heap.size+2,1,none⟩) (by simp;omega)).trans g1
     have f2:=(hb2.frozen (p:=⟨w.heap.size+2,2,none⟩) (by simp;omega)).trans g2
     have f3:=(hb2.frozen (p:=⟨w.heap.size+2,3,none⟩) (by simp;omega)).trans g3
     have HB2:Hid (Below wn.heap.size wn w2):=hb2
     clear hb2 r0 r1 r2 r3 g0 g1 g2 g3 hht
     go_wp2_with fail
     refine bodyPost_ret (v:=.agg #[.int .i64 1,.int .i64 (O+page-(page-page%S)),.int .i64 P,.int .i64 S]) (by simp[results,results137,go_sem,z0,z1,z2,z3]) rfl ⟨by rw[HOUT.out],⟨u.a1,u.c1,u.a2,u.n2,u.c2,u.a3,u.c3,a',c',u.a5,u.c5⟩,?_⟩
     show AT _ _ _ _ _ _ _ _ (Aa M _)
     rw[Gb]
     refine AT.seal HBX.out.drew HUM.out HST.out ⟨HB2.out.os,HB2.out.tape,HB2.out.output,by simpa using HB2.out.size,fun k hk hn2=>?_⟩
     have hk2:k≠w.heap.size+1+1:=fun e=>hn2 (by subst e;simp;omega)
     rw[Below.heap_setCell _ _ _ _ (by exact hk2),Below.heap_setCell _ _ _ _ (by exact hk2),Below.heap_setCell _ _ _ _ (by exact hk2),Below.heap_setCell _ _ _ _ (by exact hk2)]
     exact HB2.out.block k hk
end Go.Proofs.YtnmhkgmmpkjjeabGreat
