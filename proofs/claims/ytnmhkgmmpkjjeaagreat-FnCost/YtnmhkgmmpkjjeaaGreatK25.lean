import Derived.Test.YtnmhkgmmpkjjeaaGreatK20
import Derived.Test.YtnmhkgmmpkjjeaaGreatK24
import Derived.Laws.StructEq
import Derived.MapKept
import Derived.WideKeyRuns
namespace Go.Proofs.YtnmhkgmmpkjjeaaGreat
open Go.ChangeShapes Go.WideShapes Go.ChangeAt Go.RowKit
set_option linter.unusedVariables false
attribute [local go_sem ↓] Go.wp_at_zero Go.wp_at_succ
set_option maxRecDepth 100000
set_option linter.unusedSimpArgs false
theorem Hm (T:Array Value) (k:Nat) (hk:k<16) (x:Int) (hT:T[k]?=some (.int .u64 x)) (w:World) : (Instr.index 282 (.agg T) (.int .i64 (k:Int))).run Tryz.prog w=.ok (.int .u64 x) w:=by
 obtain⟨i,hi,h1,h2,h3⟩:=info_parts Fb;simp[Instr.index,run_underlying Tryz.underlying282,sizeOf,typeInfo,hi,h2,part,hT,asIntOf,hk]
def W9 (w:World) (B:Nat) (v:Value) (L:List P3) (e:Ending) (w':World):Prop :=
 ∃g' c',e=.returned (.slice (some ⟨g',0,none⟩) L.length c')/\Aa w' B (.slice (some ⟨g',0,none⟩) L.length c') L/\w.grownBy w' v.ownBlock/\(v.ownBlock=some g'\/w.heap.size<=g')
theorem EG {w w' w'':World} {row:Option Nat} (h:w.grownBy w' row) (hb:Below w'.heap.size w' w''):w.grownBy w'' row :=
 ⟨hb.os.trans h.os,hb.tape.trans h.tape,hb.output.trans h.output,Nat.le_trans h.size hb.size,fun k hk hne=>(hb.block k (Nat.lt_of_lt_of_le hk h.size)).trans (h.block k hk hne)⟩
set_option maxHeartbeats 2000000 in
theorem Tl (g:Nat) (zs:List Int) (c:Nat) (p:P3) (hl:p.lv=3) (B:Nat) (hgB:g<B) (Q:Nat) (hQ:Q<=100000) (v:Value) (qs:List P3) (hqs:qs.length<=Q) (w:World) (hg:Ar w g zs) (hBw:B<=w.heap.size) (hv:Aa w B v qs) : Calls Tryz.prog 148 #[v,.agg #[.slice (some ⟨g,0,none⟩) zs.length c],.agg #[.int .i64 p.fr,.int .i64 p.lv,.int .i64 p.pg]] w fun e w'=>W9 w B v (qs++[p]) e w':=by
 obtain⟨i0,hi,hz0,hz1,hz2⟩:=info_parts Dp;have hvl:∀q,v.ownBlock=some q->B<=q/\q<w.heap.size:=World.ownsRow.lt hv
 have HV:Hid (Aa w B v qs):=hv;have HVL:Hid _:=hvl;have HG:Hid (Ar w g zs):=hg;have HL:Hid (p.lv=3):=hl;clear hv hvl hg hl;go_enter Tryz.func148,Tryz.ntmps148
 go_wp2_with (at_builtin;refine wpList_append_lies _ rfl (.tmp 11) (.tmp 13) 61 rfl B 67 i0 _ 3 24 Tryz.underlying61 hi hz0 hz1 hz2 rfl (by omega) _ _ _ rfl (World.ownsRow.alloc (World.ownsRow.alloc (World.ownsRow.alloc HV.out _) _) _) ⟨w.heap.size+1+1,0,none⟩ 1 1 [.int .i64 p.fr,.int .i64 p.lv,.int .i64 p.pg] rfl rfl ?c1 ?c2 (by omega) ?c3 ?c4 ?c5 (w.heap.size+3) ?c6 ?_)
 case c1 =>
  have:=World.news_of_block (heap_alloc_new ((w.alloc (.cells #[.slice (some ⟨g,0,none⟩) zs.length c] 35)).alloc (.cells #[.int .i64 p.fr,.int .i64 p.lv,.int .i64 p.pg] 67)) (.cells #[.int .i64 p.fr,.int .i64 p.lv,.int .i64 p.pg] 67));simpa using this
 case c2=>intro u hu;simp at hu;rcases hu with rfl|rfl|rfl<;>rfl
 case c3=>unfold maxLen;omega
 case c4=>omega
 case c5=>simp;omega
 case c6=>simp
 intro g1 cap1 wn hown hgrow hat hlt3;have hsn:=hgrow.size;simp at hsn;have hnew:Aa wn B (.slice (some ⟨g1,0,none⟩) (qs.length+1) cap1) (qs++[p]):=by
  unfold Aa;rw[List.length_append,E0];exact hown
 have hvne:∀k,w.heap.size<=k->some k≠v.ownBlock:=fun k hk h=>by have:=HVL.out k h.symm;omega
 have hgw:w.grownBy wn v.ownBlock:=by
  refine⟨hgrow.os,hgrow.tape,hgrow.output,by omega,fun k hk hne=>?_⟩;rw[hgrow.block k (by simp;omega) hne,Below.heap_alloc _ _ _ (by simp;omega),Below.heap_alloc _ _ _ (by simp;omega),Below.heap_alloc _ _ _ hk]
 have b0:wn.cell? ⟨w.heap.size,0,none⟩=some (.slice (some ⟨g,0,none⟩) zs.length c):=by
  rw[World.cell?_of_block (hgrow.block w.heap.size (by simp;omega) (hvne _ (Nat.le_refl _)))];simp[go_sem]
 have b1:wn.cell? ⟨w.heap.size+1,0,none⟩=some (.int .i64 p.fr):=by
  rw[World.cell?_of_block (hgrow.block (w.heap.size+1) (by simp) (hvne _ (by omega)))];simp[go_sem]
 have b2:wn.cell? ⟨w.heap.size+1,1,none⟩=some (.int .i64 p.lv):=by
  rw[World.cell?_of_block (hgrow.block (w.heap.size+1) (by simp) (hvne _ (by omega)))];simp[go_sem]
 have b3:wn.cell? ⟨w.heap.size+1,2,none⟩=some (.int .i64 p.pg):=by
  rw[World.cell?_of_block (hgrow.block (w.heap.size+1) (by simp) (hvne _ (by omega)))];simp[go_sem]
 have hgv:some g≠v.ownBlock:=fun h=>by have:=HVL.out g h.symm;omega
 have hgn:Ar wn g zs:=Ar.of_block HG.out (hgw.block g HG.out.lt hgv);have hat':v.ownBlock=some g1\/w.heap.size+2<=g1:=hat.elim .inl (fun h=>.inr (by omega));have h3:(p.lv==3)=true:=by simp[HL.out]
 have HNEW:Hid (Aa _ _ _ _):=hnew;have HGW:Hid (w.grownBy wn _):=hgw;have HAT:Hid (_\/_):=hat';clear hown hgrow hat hnew hgw hat' hgn hvne hgv;go_wp2_with fail
 go_ret;exact⟨g1,cap1,by rw[List.length_append];rfl,by rw[List.length_append];exact HNEW.out,HGW.out,HAT.out.elim .inl (fun h=>.inr (by omega))⟩
set_option maxHeartbeats 2000000 in
theorem TQ (g:Nat) (zs:List Int) (c:Nat) (p:P3) (F:Nat) (hF:p.fr=F) (hF2:F*16+16<=zs.length) (hlen:zs.length<=8192) (hcc:zs.length<=c) (hl1:1<=p.lv) (hl2:p.lv<3) (hp0:0<=p.pg) (hp1:p.pg<=4096*p.lv) (rec:P3->List P3) (hB:∀q,(rec q).length<=300) (n:Int) (hn:n*16=zs.length) (hd:∀i,i<16->∀w,Calls Tryz.prog 151 #[.int .i64 p.lv,.int .u64 (AG zs p.fr i)] w fun e w'=>e=.returned (.agg #[.int .i64 (AF p.lv (AG zs p.fr i)),.int .i64 (AQ p.lv (AG zs p.fr i)),.int .i64 (Ae p.lv (AG zs p.fr i))])/\Below w.heap.size w w') (B:Nat) (hgB:g<B) (Q:Nat) (hQ:Q<=100000) (ih:∀i w v qs,i<16->De zs n p i=true->Ar w g zs->B<=w.heap.size->qs.length<=Q+5000->Aa w B v qs->Calls Tryz.prog 148 #[v,.agg #[.slice (some ⟨g,0,none⟩) zs.length c],.agg #[.int .i64 (Aq zs p i).fr,.int .i64 (Aq zs p i).lv,.int .i64 (Aq zs p i).pg]] w fun e w'=>W9 w B v (qs++rec (Aq zs p i)) e w') (v:Value) (qs:List P3) (hqs:qs.length<=Q) (w:World) (hg:Ar w g zs) (hBw:B<=w.heap.size) (hv:Aa w B v qs) : Calls Tryz.prog 148 #[v,.agg #[.slice (some ⟨g,0,none⟩) zs.length c],.agg #[.int .i64 p.fr,.int .i64 p.lv,.int .i64 p.pg]] w fun e w'=>W9 w B v (qs++Ah zs n rec p 16) e w':=by
 obtain⟨i0,hi,hz0,hz1,hz2⟩:=info_parts Dp;have hvl:∀q,v.ownBlock=some q->B<=q/\q<w.heap.size:=World.ownsRow.lt hv
 have HV:Hid (Aa w B v qs):=hv;have HVL:Hid _:=hvl;have HIH:Hid _:=ih;have HD:Hid _:=hd;have HF:Hid (p.fr=F):=hF;have HG:Hid (Ar w g zs):=hg;clear hv hvl ih hd hF hg;go_enter Tryz.func148,Tryz.ntmps148
 go_wp2_with (at_builtin;refine wpList_append_lies _ rfl (.tmp 11) (.tmp 13) 61 rfl B 67 i0 _ 3 24 Tryz.underlying61 hi hz0 hz1 hz2 rfl (by omega) _ _ _ rfl (World.ownsRow.alloc (World.ownsRow.alloc (World.ownsRow.alloc HV.out _) _) _) ⟨w.heap.size+1+1,0,none⟩ 1 1 [.int .i64 p.fr,.int .i64 p.lv,.int .i64 p.pg] rfl rfl ?c1 ?c2 (by omega) ?c3 ?c4 ?c5 (w.heap.size+3) ?c6 ?_)
 case c1 =>
  have:=World.news_of_block (heap_alloc_new ((w.alloc (.cells #[.slice (some ⟨g,0,none⟩) zs.length c] 35)).alloc (.cells #[.int .i64 p.fr,.int .i64 p.lv,.int .i64 p.pg] 67)) (.cells #[.int .i64 p.fr,.int .i64 p.lv,.int .i64 p.pg] 67));simpa using this
 case c2=>intro u hu;simp at hu;rcases hu with rfl|rfl|rfl<;>rfl
 case c3=>unfold maxLen;omega
 case c4=>omega
 case c5=>simp;omega
 case c6=>simp
 intro g1 cap1 wn hown hgrow hat hlt3;have hsn:=hgrow.size;simp at hsn;have hnew:Aa wn B (.slice (some ⟨g1,0,none⟩) (qs.length+1) cap1) (qs++Ah zs n rec p 0):=by
  unfold Aa;rw[KP,List.length_append,E0];exact hown
 have hvne:∀k,w.heap.size<=k->some k≠v.ownBlock:=fun k hk h=>by have:=HVL.out k h.symm;omega
 have hgw:w.grownBy wn v.ownBlock:=by
  refine⟨hgrow.os,hgrow.tape,hgrow.output,by omega,fun k hk hne=>?_⟩;rw[hgrow.block k (by simp;omega) hne,Below.heap_alloc _ _ _ (by simp;omega),Below.heap_alloc _ _ _ (by simp;omega),Below.heap_alloc _ _ _ hk]
 have b0:wn.cell? ⟨w.heap.size,0,none⟩=some (.slice (some ⟨g,0,none⟩) zs.length c):=by
  rw[World.cell?_of_block (hgrow.block w.heap.size (by simp;omega) (hvne _ (Nat.le_refl _)))];simp[go_sem]
 have b1:wn.cell? ⟨w.heap.size+1,0,none⟩=some (.int .i64 p.fr):=by
  rw[World.cell?_of_block (hgrow.block (w.heap.size+1) (by simp) (hvne _ (by omega)))];simp[go_sem]
 have b2:wn.cell? ⟨w.heap.size+1,1,none⟩=some (.int .i64 p.lv):=by
  rw[World.cell?_of_block (hgrow.block (w.heap.size+1) (by simp) (hvne _ (by omega)))];simp[go_sem]
 have b3:wn.cell? ⟨w.heap.size+1,2,none⟩=some (.int .i64 p.pg):=by
  rw[World.cell?_of_block (hgrow.block (w.heap.size+1) (by simp) (hvne _ (by omega)))];simp[go_sem]
 have hgv:some g≠v.ownBlock:=fun h=>by have:=HVL.out g h.symm;omega
 have hgn:Ar wn g zs:=Ar.of_block HG.out (hgw.block g HG.out.lt hgv);have hat':v.ownBlock=some g1\/w.heap.size+2<=g1:=hat.elim .inl (fun h=>.inr (by omega));rw[HF.out] at b1;have HNEW:Hid (Aa _ _ _ _):=hnew;have HGW:Hid (w.grownBy wn _):=hgw;have HAT:Hid (_\/_):=hat';have HGN:Hid (Ar wn g zs):=hgn;have HVNE:Hid _:=hvne;have HGV:Hid _:=hgv;have htab:=Jn g zs c F hF2 hlen hcc wn hgn;have hne3:(p.lv==3)=false:=by simp;omega
 clear hown hgrow hat hnew hgw hat' hgn hvne hgv;go_wp2_with fail
 refine htab.mono ?_;rintro e wt ⟨⟨T,rfl,hTs,hT⟩,hbt⟩;have hst:=hbt.size;have t0:=(hbt.cell (p:=⟨w.heap.size,0,none⟩) (by simp;omega)).trans b0;have t1:=(hbt.cell (p:=⟨w.heap.size+1,0,none⟩) (by simp;omega)).trans b1;have t2:=(hbt.cell (p:=⟨w.heap.size+1,1,none⟩) (by simp;omega)).trans b2;have t3:=(hbt.cell (p:=⟨w.heap.size+1,2,none⟩) (by simp;omega)).trans b3;have HST:Hid (Aa wt B (.slice (some ⟨g1,0,none⟩) (qs.length+1) cap1) (qs++Ah zs n rec p 0)/\w.grownBy wt v.ownBlock/\w.heap.size+2<=wt.heap.size/\wt.cell? ⟨w.heap.size,0,none⟩=some (.slice (some ⟨g,0,none⟩) zs.length c)/\wt.cell? ⟨w.heap.size+1,0,none⟩=some (.int .i64 F)/\wt.cell? ⟨w.heap.size+1,1,none⟩=some (.int .i64 p.lv)/\wt.cell? ⟨w.heap.size+1,2,none⟩=some (.int .i64 p.pg)) :=
  ⟨HNEW.out.below hbt,EG HGW.out hbt,by omega,t0,t1,t2,t3⟩
 have HT:Hid _:=hT;clear htab hbt t0 t1 t2 t3 b0 b1 b2 b3 hT hst;go_wp2_with fail
 go_loopw [0,23] (fun v0 iv wr=>∃k gv cv:Nat,k<=16/\iv=.int .i64 k/\v0=.slice (some ⟨gv,0,none⟩) (qs++Ah zs n rec p k).length cv/\Aa wr B (.slice (some ⟨gv,0,none⟩) (qs++Ah zs n rec p k).length cv) (qs++Ah zs n rec p k)/\(v.ownBlock=some gv\/w.heap.size+2<=gv)/\w.grownBy wr v.ownBlock/\w.heap.size+2<=wr.heap.size/\wr.cell? ⟨w.heap.size,0,none⟩=some (.slice (some ⟨g,0,none⟩) zs.length c)/\wr.cell? ⟨w.heap.size+1,0,none⟩=some (.int .i64 F)/\wr.cell? ⟨w.heap.size+1,1,none⟩=some (.int .i64 p.lv)/\wr.cell? ⟨w.heap.size+1,2,none⟩=some (.int .i64 p.pg)) (fun _ iv _=>16-(intOf iv).toNat)
 case atStart =>
  obtain⟨s1,s2,s3,s4,s5,s6,s7⟩:=HST.out;have el:(qs++Ah zs n rec p 0).length=qs.length+1:=by rw[KP,List.length_append];rfl
  exact⟨0,g1,cap1,by omega,rfl,by rw[el],by rw[el];exact s1,HAT.out,s2,s3,s4,s5,s6,s7⟩
 case round =>
  obtain⟨k,gv,cv,hk,rfl,rfl,hrow,hat,hgr,hsz,c0,c1,c2,c3⟩:=hrel;have hBL:=EU zs n rec p 300 hB k;by_cases hlt:k<16
  ·have hgn:Ar wr g zs:=Ar.of_block HG.out (hgr.block g HG.out.lt HGV.out);have hTk:=HT.out k hlt;(have ew:zs.getD (F*16+k) 0=AG zs p.fr k:=by simp[AG,HF.out];congr 1);rw[ew] at hTk;have hdk:=HD.out k hlt;have dO:=Cw p.lv (AG zs p.fr k);have hdd:=GE zs n rec p k;have hih:=HIH.out k;unfold Aq at hih hdd;unfold De at hih hdd;have HDD:Hid _:=hdd;have HIK:Hid _:=hih;have HRW:Hid (Aa _ _ _ _):=hrow;have HGR:Hid (w.grownBy wr _):=hgr;have HGN2:Hid (Ar _ _ _):=hgn;have HATk:Hid (_\/_):=hat;clear ew hdd hih hrow hgr hgn hat;generalize AG zs p.fr k=X at *;generalize AF p.lv X=K at *;generalize AQ p.lv X=O at *;generalize Ae p.lv X=M at *;(have L1:(0:Int)<=(k:Int):=by omega);(have L2:(k:Int)<16:=by omega);have hix:=Hm T k hlt X hTk;have hfr:=Iw (some ⟨g,0,none⟩) zs.length c O n hn dO.1 hlen;clear hTk hTs;(go_wp2_with fail);refine(hdk wr).mono ?_;rintro e w1 ⟨rfl,hb1⟩;have hs1:=hb1.size;have e0:=(hb1.cell (p:=⟨w.heap.size,0,none⟩) (by simp;omega)).trans c0;have e1:=(hb1.cell (p:=⟨w.heap.size+1,0,none⟩) (by simp;omega)).trans c1;have e2:=(hb1.cell (p:=⟨w.heap.size+1,1,none⟩) (by simp;omega)).trans c2;have e3:=(hb1.cell (p:=⟨w.heap.size+1,2,none⟩) (by simp;omega)).trans c3;(have N1:w.heap.size<w1.heap.size:=by omega);(have N2:w.heap.size+1<w1.heap.size:=by omega);have HB1:Hid (Below _ _ _):=hb1;clear c0 c1 c2 c3 hdk hix hb1;by_cases hK:K=1
   ·subst hK;by_cases hO:O<n
    ·(have hO':decide (O<n)=true:=by simpa using hO);rw[hO'] at hfr;have hcov:=Co p.lv;have hC0:=LR p.lv;have hrec:=HIK.out;simp only[hO',decide_true,Bool.and_true] at hrec;have hx:Ah zs n rec p (k+1)=Ah zs n rec p k++rec ⟨O,p.lv+1,p.pg+k*CH p.lv⟩:=by
      have h:=HDD.out;rw[hO'] at h;simpa using h
     have hRB:=hB ⟨O,p.lv+1,p.pg+k*CH p.lv⟩;have HX:Hid _:=hx;generalize CH p.lv=C at *;have y0:0<=(k:Int)*C:=Int.mul_nonneg (by omega) hC0.1;have y1:(k:Int)*C<=15*256:=Int.mul_le_mul (by omega) hC0.2 hC0.1 (by omega);(have Wy:IntKind.i64.wrap ((k:Int)*C)=(k:Int)*C:=by rw[IntKind.wrap_i64];omega);(have Wz:IntKind.i64.wrap (p.pg+(k:Int)*C)=p.pg+(k:Int)*C:=by rw[IntKind.wrap_i64];omega);(have Wl:IntKind.i64.wrap (p.lv+1)=p.lv+1:=by rw[IntKind.wrap_i64];omega);have HREC:Hid _:=hrec;clear hx hrec HDD HIK HIH HD;(go_upto_region 9 with(go_at_call 155;refine(hfr _).mono ?_;rintro e w4 ⟨rfl,hb4⟩));have hs4:=hb4.size;simp at hs4;have hb14:Below wr.heap.size wr w4:=(HB1.out.alloc hs1 _).trans (hb4.mono (by simp;omega));(have d1:w4.cell? ⟨w1.heap.size,1,none⟩=some (.int .i64 O):=by rw[hb4.cell (by simp)];simp[go_sem]);(have e0':w4.cell? ⟨w.heap.size,0,none⟩=some (.slice (some ⟨g,0,none⟩) zs.length c):=by rw[hb4.cell (by simp;omega)];simp[go_sem,e0,N1]);(have e1':w4.cell? ⟨w.heap.size+1,0,none⟩=some (.int .i64 F):=by rw[hb4.cell (by simp;omega)];simp[go_sem,e1,N2]);(have e2':w4.cell? ⟨w.heap.size+1,1,none⟩=some (.int .i64 p.lv):=by rw[hb4.cell (by simp;omega)];simp[go_sem,e2,N2]);(have e3':w4.cell? ⟨w.heap.size+1,2,none⟩=some (.int .i64 p.pg):=by rw[hb4.cell (by simp;omega)];simp[go_sem,e3,N2]);have HB14:Hid (Below _ _ _):=hb14;clear e0 e1 e2 e3 hfr hb4 hb14;(go_cut [10] (fun d10 wx=>∃E,d10=.pointer (some ⟨E,0,none⟩)/\wx.cell? ⟨E,0,none⟩=some (.int .i64 O)/\wx.cell? ⟨E,1,none⟩=some (.int .i64 (p.lv+1))/\wx.cell? ⟨E,2,none⟩=some (.int .i64 (p.pg+(k:Int)*C))/\E<wx.heap.size/\Below w4.heap.size w4 wx));case first =>
      have HK:Hid (∀wX,Below w4.heap.size w4 wX->wX.cell? ⟨w1.heap.size,1,none⟩=some (.int .i64 O)/\wX.cell? ⟨w.heap.size+1,1,none⟩=some (.int .i64 p.lv)/\wX.cell? ⟨w.heap.size+1,2,none⟩=some (.int .i64 p.pg)) :=
       fun wX h=>⟨(h.cell (by first|omega|(simp<;>omega))).trans d1,(h.cell (by first|omega|(simp<;>omega))).trans e2',(h.cell (by first|omega|(simp<;>omega))).trans e3'⟩
      go_region_held3 (fun w'=>w'.cell? ⟨w1.heap.size,1,none⟩=some (.int .i64 O)/\w'.cell? ⟨w.heap.size+1,1,none⟩=some (.int .i64 p.lv)/\w'.cell? ⟨w.heap.size+1,2,none⟩=some (.int .i64 p.pg))
       ((refine HK.out _ ?_;repeat (first|exact Below.refl _ _|with_reducible refine Below.drew ?_|with_reducible refine Below.setCell ?_ (by first|omega|(simp<;>omega)) _|with_reducible refine Below.alloc ?_ (by first|omega|(simp<;>omega)) _)))
       (first|(go_at_call 168;refine(hcov _).mono ?_;rintro e w3 ⟨rfl,rfl⟩))
      all_goals
       go_wp2_with fail
       go_meet
       case rel =>
        refine⟨_,rfl,?_,?_,?_,?_,?_⟩
        ·simp[go_sem]
        ·simp[go_sem]
        ·simp[go_sem]
        ·first|omega|(simp<;>omega)
        ·repeat (first|exact Below.refl _ _|with_reducible refine Below.drew ?_|with_reducible refine Below.setCell ?_ (by first|omega|(simp<;>omega)) _|with_reducible refine Below.alloc ?_ (by first|omega|(simp<;>omega)) _)
     case rest =>
      obtain⟨E,rfl,f0,f1,f2,hE,hbE⟩:=hcut;have g0:=(hbE.cell (p:=⟨w.heap.size,0,none⟩) (by simp;omega)).trans e0';have g1':=(hbE.cell (p:=⟨w.heap.size+1,0,none⟩) (by simp;omega)).trans e1';have g2:=(hbE.cell (p:=⟨w.heap.size+1,1,none⟩) (by simp;omega)).trans e2';have g3:=(hbE.cell (p:=⟨w.heap.size+1,2,none⟩) (by simp;omega)).trans e3';have hbc:Below wr.heap.size wr wc:=HB14.out.trans (hbE.mono (by omega));have hsc:=hbc.size;have hrw:Aa wc B (.slice (some ⟨gv,0,none⟩) (qs.length+(Ah zs n rec p k).length) cv) (qs++Ah zs n rec p k):=by
       have:=HRW.out.below hbc;rwa [List.length_append] at this
      have hgc:Ar wc g zs:=HGN2.out.below hbc HGN2.out.lt;have hrec:=HREC.out wc (.slice (some ⟨gv,0,none⟩) (qs.length+(Ah zs n rec p k).length) cv) (qs++Ah zs n rec p k) hlt trivial hgc (by omega) (by rw[List.length_append];omega) hrw;have HBC:Hid (Below _ _ _):=hbc;have Hbox:Hid (wc.cell? ⟨w.heap.size,0,none⟩=some (.slice (some ⟨g,0,none⟩) zs.length c)/\wc.cell? ⟨w.heap.size+1,0,none⟩=some (.int .i64 F)/\wc.cell? ⟨w.heap.size+1,1,none⟩=some (.int .i64 p.lv)/\wc.cell? ⟨w.heap.size+1,2,none⟩=some (.int .i64 p.pg)):=⟨g0,g1',g2,g3⟩;clear e0' e1' e2' e3' d1 hbE hcov Wy Wz Wl hrw hgc hbc HREC;(go_wp2_with fail);refine hrec.mono ?_;rintro e w5 ⟨g5,c5,rfl,hp5,hgr5,hat5⟩;have hgr5':wc.grownBy w5 (some gv):=hgr5;have hat5':gv=g5\/wc.heap.size<=g5:=by
       rcases hat5 with h|h
       ·exact .inl (by simpa [Value.ownBlock] using h)
       ·exact .inr h
      (have hgvl:∀q,v.ownBlock=some q->q<w.heap.size:=fun q hq=>(HVL.out q hq).2);have hgv0:gv≠w.heap.size/\gv≠w.heap.size+1:=by
       rcases HATk.out with h|h
       ·have:=hgvl gv h;omega
       ·omega
      have hs5:=hgr5'.size;obtain⟨g0,g1',g2,g3⟩:=Hbox.out;have k0:w5.cell? ⟨w.heap.size,0,none⟩=some (.slice (some ⟨g,0,none⟩) zs.length c):=by
       rw[World.cell?_of_block (hgr5'.block w.heap.size (by omega) (by simp only[ne_eq,Option.some.injEq];omega))];exact g0
      have k1:w5.cell? ⟨w.heap.size+1,0,none⟩=some (.int .i64 F):=by
       rw[World.cell?_of_block (hgr5'.block (w.heap.size+1) (by omega) (by simp only[ne_eq,Option.some.injEq];omega))];exact g1'
      have k2:w5.cell? ⟨w.heap.size+1,1,none⟩=some (.int .i64 p.lv):=by
       rw[World.cell?_of_block (hgr5'.block (w.heap.size+1) (by omega) (by simp only[ne_eq,Option.some.injEq];omega))];exact g2
      have k3:w5.cell? ⟨w.heap.size+1,2,none⟩=some (.int .i64 p.pg):=by
       rw[World.cell?_of_block (hgr5'.block (w.heap.size+1) (by omega) (by simp only[ne_eq,Option.some.injEq];omega))];exact g3
      have hgw5:w.grownBy w5 v.ownBlock:=by
       have h1:=EG HGR.out HBC.out;refine⟨hgr5'.os.trans h1.os,hgr5'.tape.trans h1.tape,hgr5'.output.trans h1.output,by omega,fun q hq hne=>?_⟩;refine(hgr5'.block q (by omega) ?_).trans (h1.block q hq hne);intro e5;simp only[Option.some.injEq] at e5;rcases HATk.out with h|h
       ·exact hne (by rw[h,e5])
       ·omega
      have hat6:v.ownBlock=some g5\/w.heap.size+2<=g5:=by
       rcases hat5' with h|h
       ·rw[<- h];exact HATk.out
       ·exact .inr (by omega)
      have HP5:Hid (Aa _ _ _ _):=hp5;have HAT6:Hid (_\/_):=hat6;have HGW5:Hid (w.grownBy w5 _):=hgw5;clear hp5 hgr5 hgr5' hat5 hat5' hat6 hgw5 hrec g0 g1' g2 g3 hgv0 hgvl;(go_wp2_with fail);go_roundw;case rel =>
       refine⟨k+1,g5,c5,by omega,by go_num,?_⟩;rw[HX.out,<- List.append_assoc];exact⟨by first|rfl|simp,HP5.out,HAT6.out,HGW5.out,by omega,k0,k1,k2,k3⟩
      case measure=>simp[intOf];omega
    ·(have hO':decide (O<n)=false:=by simpa using hO);rw[hO'] at hfr;have hx:Ah zs n rec p (k+1)=Ah zs n rec p k:=by
      have h:=HDD.out;rw[hO'] at h;simpa using h
     have HX:Hid _:=hx;clear hx;(go_wp2_with (go_at_call 155;refine(hfr _).mono ?_;rintro e w4 ⟨rfl,hb4⟩));go_roundw;case rel =>
      have hb14:Below wr.heap.size wr w4:=(HB1.out.alloc hs1 _).trans (hb4.mono (by simp;omega));refine⟨k+1,gv,cv,by omega,by go_num,?_⟩;rw[HX.out]
      exact⟨by rw[List.length_append],HRW.out.below hb14,HATk.out,EG HGR.out hb14,by have:=hb14.size;omega,
       by rw[hb4.cell (by simp;omega)];simp[go_sem,e0,N1],by rw[hb4.cell (by simp;omega)];simp[go_sem,e1,N2],by rw[hb4.cell (by simp;omega)];simp[go_sem,e2,N2],by rw[hb4.cell (by simp;omega)];simp[go_sem,e3,N2]⟩
     case measure=>simp[intOf];omega
   ·(have hK':(K==1)=false:=by simpa using hK);have hx:Ah zs n rec p (k+1)=Ah zs n rec p k:=by
     have h:=HDD.out;simp only[hK,decide_false,Bool.false_and] at h;simpa using h
    have HX:Hid _:=hx;clear hx hK;(go_wp2_with fail);go_roundw;case rel =>
     have hb14:Below wr.heap.size wr (w1.alloc (.cells #[.int .i64 K,.int .i64 O,.int .i64 M] 126)):=HB1.out.alloc hs1 _;refine⟨k+1,gv,cv,by omega,by go_num,?_⟩;rw[HX.out]
     exact⟨by rw[List.length_append],HRW.out.below hb14,HATk.out,EG HGR.out hb14,by have:=hb14.size;omega,
      by simp[go_sem,e0,N1],by simp[go_sem,e1,N2],by simp[go_sem,e2,N2],by simp[go_sem,e3,N2]⟩
    case measure=>simp[intOf];omega
  ·(have e:k=16:=by omega);subst e;(go_wp2_with fail);go_ret;exact⟨gv,cv,by rw[List.length_append];rfl,hrow,hgr,hat.elim .inl (fun h=>.inr (by omega))⟩
def Ca:E8 (Nat×Nat):=⟨223,2,fun x=>[.int .i64 x.1,.int .i64 x.2],(0,0),by omega,fun _=>rfl⟩
theorem OQ:(Tryz.prog.info? 223).map (fun i=>(i.zero,i.size,i.bytes))=some (some (.agg #[.int .i64 0,.int .i64 0]),2,16):=by kernel_rfl
structure C9 (w:World) (g:Nat) (H:Nat->Ht):Prop where
 lt:g<w.heap.size
 cells:∀p,p<4096->w.cell? ⟨g,p*4,none⟩=some (.int .i64 (H p).k)/\w.cell? ⟨g,p*4+1,none⟩=some (.int .i64 (H p).o)/\w.cell? ⟨g,p*4+2,none⟩=some (.int .i64 (H p).p)/\w.cell? ⟨g,p*4+3,none⟩=some (.int .i64 (H p).s)
theorem C9.of_block {w w':World} {g:Nat} {H:Nat->Ht} (h:C9 w g H) (hs:w.heap.size<=w'.heap.size) (hb:w'.heap[g]?=w.heap[g]?):C9 w' g H :=
 ⟨Nat.lt_of_lt_of_le h.lt hs,fun p hp=>⟨(EY hb).trans (h.cells p hp).1,(EY hb).trans (h.cells p hp).2.1,(EY hb).trans (h.cells p hp).2.2.1,(EY hb).trans (h.cells p hp).2.2.2⟩⟩
theorem C9.below {w w':World} {g:Nat} {H:Nat->Ht} (h:C9 w g H) (hb:Below w.heap.size w w'):C9 w' g H:=h.of_block hb.size (hb.block g h.lt)
set_option maxHeartbeats 2000000 in
theorem Hg (l p i:Int) (hl1:1<=l) (hl2:l<=3) (hp0:0<=p) (hp1:p<=8192) (hi0:0<=i) (hi1:i<=16) (w:World) : Calls Tryz.prog 180 #[.agg #[.int .i64 l,.int .i64 p],.int .i64 i] w fun e w'=>e=.returned (.agg #[.int .i64 (l+1),.int .i64 (p+i*CH l)])/\Below w.heap.size w w':=by
 obtain⟨wb,hwb⟩:∃wb,wb=(w.alloc (.cells #[.int .i64 l,.int .i64 p] 223)).alloc (.cells #[.int .i64 0,.int .i64 0] 223):=⟨_,rfl⟩
 have hbb:Below w.heap.size w wb:=by rw[hwb];exact((Below.refl _ _).alloc (Nat.le_refl _) _).alloc (by simp) _
 have hzb:wb.heap.size=w.heap.size+2:=by rw[hwb];simp
 have q0:wb.cell? ⟨w.heap.size,0,none⟩=some (.int .i64 l):=by rw[hwb];simp[go_sem]
 have q1:wb.cell? ⟨w.heap.size,1,none⟩=some (.int .i64 p):=by rw[hwb];simp[go_sem]
 have r0:wb.cell? ⟨w.heap.size+1,0,none⟩=some (.int .i64 0):=by rw[hwb];simp[go_sem]
 have r1:wb.cell? ⟨w.heap.size+1,1,none⟩=some (.int .i64 0):=by rw[hwb];simp[go_sem]
 have f0:wb.frozen? ⟨w.heap.size+1,0,none⟩=false:=by rw[hwb];simp[go_sem]
 have f1:wb.frozen? ⟨w.heap.size+1,1,none⟩=false:=by rw[hwb];simp[go_sem]
 have HK:Hid (∀wX,Below (w.heap.size+1) wb wX->wX.cell? ⟨w.heap.size,0,none⟩=some (.int .i64 l)/\wX.cell? ⟨w.heap.size,1,none⟩=some (.int .i64 p)):=fun wX hX=>⟨(hX.cell (by simp)).trans q0,(hX.cell (by simp)).trans q1⟩
 have hcv:=Co l;have hcb:=LR l;generalize CH l=C at *;have hm0:0<=i*C:=Int.mul_nonneg hi0 hcb.1;have hm1:i*C<=16*256:=Int.mul_le_mul hi1 hcb.2 hcb.1 (by decide);have W1:IntKind.i64.wrap (i*C)=i*C:=by rw[IntKind.wrap_i64];omega
 have W2:IntKind.i64.wrap (p+i*C)=p+i*C:=by rw[IntKind.wrap_i64];omega
 have W3:IntKind.i64.wrap (l+1)=l+1:=by rw[IntKind.wrap_i64];omega
 have HWB:Hid (wb=_):=hwb;have HBB:Hid (Below w.heap.size w wb):=hbb;have HZ:Hid (wb.heap.size=w.heap.size+2):=hzb;have N0:w.heap.size+1<wb.heap.size:=by omega
 clear hwb hbb hzb q0 q1;go_enter Tryz.func180,Tryz.ntmps180
 go_wp2_with fail
 rw[<- HWB.out];go_region_held3 (fun wX=>wX.cell? ⟨w.heap.size,0,none⟩=some (.int .i64 l)/\wX.cell? ⟨w.heap.size,1,none⟩=some (.int .i64 p))
  ((refine HK.out _ ?_;repeat (first|exact Below.refl _ _|with_reducible refine Below.drew ?_|with_reducible refine Below.setCell ?_ (by first|omega|(simp<;>omega)) _)))
  (first|(go_at_call 168;refine(hcv _).mono ?_;rintro e w1 ⟨rfl,hw1⟩;subst hw1))
 go_wp2_with fail
 refine bodyPost_ret (v:=.agg #[.int .i64 (l+1),.int .i64 (p+i*C)]) (by simp[results,Tryz.results180,go_sem,r0,r1]) rfl ⟨rfl,?_⟩;exact(HBB.out.drew.setCell (Nat.le_succ _) _).setCell (Nat.le_succ _) _
structure HE where
 lv:Int
 pg:Int
 fr:Int
 kp:Bool
abbrev kV (lv pg:Int):Value:=.agg #[.int .i64 lv,.int .i64 pg]
abbrev hV (f:Int) (k:Bool):Value:=.agg #[.int .i64 f,.bool k]
theorem Xy (a b c d:Int) (w:World):(Op.equal 223 (kV a b) (kV c d)).run Tryz.prog w=.ok (decide (a=c/\b=d)) w:=by
 have hS:Tryz.prog.underlying 223=some (.struct (Tryz.prog.fieldsOf 223)):=by kernel_rfl
 have hp:Tryz.prog.stoodInHeld 223=false:=by kernel_rfl
 unfold Op.equal;rw[show Op.maxDepth=9999+1 from rfl,run_equalIn_struct w 9999 223 _ _ hS hp];simp only[Program.fieldsOf,Tryz.underlying223];go_simp;by_cases h1:a=c<;>by_cases h2:b=d<;>simp[h1,h2]
theorem ML (e:Bool) (a b:Int) (w:World):(Instr.checkKey e 10000 223 (kV a b)).run Tryz.prog w=.ok () w:=by
 cases e<;>kernel_rfl
def Wa (h:HE):Value×Value:=(kV h.lv h.pg,hV h.fr h.kp)
def Ck (w:World) (B:Nat) (m:List HE):Prop:=∃es c,w.heap[B]?=some (.map es c)/\es.toList.map (fun e=>(e.key,e.val))=m.map Wa
def Sc (lv pg:Int) (h:HE):Bool:=decide (lv=h.lv/\pg=h.pg)
def F5 (m:List HE) (lv pg:Int):Option HE:=m.find? (Sc lv pg)
theorem Ri (lv pg:Int) (w:World):∀(es:List MapEntry) (m:List HE) (i:Nat),es.map (fun e=>(e.key,e.val))=m.map Wa->∃j,(Instr.findAsking 223 (kV lv pg) es i).run Tryz.prog w=.ok ((F5 m lv pg).map fun h=>(j,hV h.fr h.kp)) w
 | [],m,i,h=>by
  have:m=[]:=by cases m with
   | nil=>rfl
   | cons a r=>simp at h
  subst this;exact⟨0,by simp[Instr.findAsking,F5]⟩
 | e :: es,[],i,h=>by simp at h
 | e :: es,a :: r,i,h=>by
  simp only[List.map_cons,List.cons.injEq,Wa,Prod.mk.injEq] at h;obtain⟨⟨h1,h2⟩,h3⟩:=h;have hq:=Xy lv pg a.lv a.pg w;by_cases hh:lv=a.lv/\pg=a.pg
  ·refine⟨i,?_⟩;rw[decide_eq_true hh] at hq;unfold Instr.findAsking F5;rw[List.find?_cons_of_pos (by unfold Sc;exact decide_eq_true hh),h1];simp[hq,h2]
  ·obtain⟨j,hj⟩:=Ri lv pg w es r (i+1) h3;refine⟨j,?_⟩;rw[decide_eq_false hh] at hq;unfold Instr.findAsking F5;rw[List.find?_cons_of_neg (by unfold Sc;rw[decide_eq_false hh];decide),h1];simp only[Sem.run_bind,hq,Result.andThen_ok,Bool.false_eq_true,if_false];exact hj
theorem Oq (lv pg:Int) (w:World) (es:List MapEntry) (m:List HE) (h:es.map (fun e=>(e.key,e.val))=m.map Wa):∃j,(Instr.findKey 223 (kV lv pg) es).run Tryz.prog w=.ok ((F5 m lv pg).map fun h=>(j,hV h.fr h.kp)) w:=by
 obtain⟨j,hj⟩:=Ri lv pg w es m 0 h;refine⟨j,?_⟩;rw[<- hj];exact run_findKey_eq w (k:=223) (by kernel_rfl) _ _
theorem Tm (w:World):(zeroValue 227).run Tryz.prog w=.ok (hV 0 false) w:=by kernel_rfl
def FO (m:List HE) (lv pg:Int):Value:=match F5 m lv pg with
 | some h=>hV h.fr h.kp
 | none=>hV 0 false
theorem GY (B:Nat) (m:List HE) (lv pg:Int) (ok:Bool) (w:World) (h:Ck w B m) : (Instr.lookup 158 (.map (some B)) (kV lv pg) ok).run Tryz.prog w=.ok (if ok then .tuple #[FO m lv pg,.bool (F5 m lv pg).isSome] else FO m lv pg) w:=by
 obtain⟨es,c,hb,he⟩:=h;obtain⟨j,hj⟩:=Oq lv pg w es.toList m he;unfold Instr.lookup FO;simp only[Sem.run_bind,run_underlying Tryz.underlying158,Result.andThen_ok,MapKept.run_getObj_map hb,Sem.run_pure,ML,hj];cases hm:F5 m lv pg with
 | none=>cases ok<;>simp[Tm]
 | some q=>cases ok<;>simp
theorem RZ (B:Nat) (m:List HE) (x:HE) (w:World) (h:Ck w B m) (hn:F5 m x.lv x.pg=none) : ∃w',(Instr.mapUpdate 158 (.map (some B)) (kV x.lv x.pg) (hV x.fr x.kp)).run Tryz.prog w=.ok () w'/\Ck w' B (m++[x])/\w.grownBy w' (some B)/\w'.heap.size=w.heap.size:=by
 obtain⟨es,c,hb,he⟩:=h;obtain⟨j,hj⟩:=Oq x.lv x.pg w es.toList m he;rw[hn] at hj;have hlt:B<w.heap.size:=by
  rcases Nat.lt_or_ge B w.heap.size with h|h
  ·exact h
  ·rw[Array.getElem?_eq_none h] at hb;cases hb
 refine⟨{ w with heap:=w.heap.setIfInBounds B (.map (es.push { key:=kV x.lv x.pg,val:=hV x.fr x.kp,born:=c }) (c+1)) },?_,⟨es.push { key:=kV x.lv x.pg,val:=hV x.fr x.kp,born:=c },c+1,?_,?_⟩,⟨rfl,rfl,rfl,by simp,fun k hk hne=>?_⟩,by simp⟩
 ·unfold Instr.mapUpdate;simp only[Sem.run_bind,run_underlying Tryz.underlying158,Result.andThen_ok,MapKept.run_getObj_map hb,ML,hj,Option.map_none];exact MapKept.run_setObj_map _ hb
 ·show (w.heap.setIfInBounds B _)[B]?=_;rw[Array.getElem?_setIfInBounds_self_of_lt hlt]
 ·rw[Array.toList_push,List.map_append,List.map_append,he];rfl
 ·show (w.heap.setIfInBounds B _)[k]?=_;rw[Array.getElem?_setIfInBounds_ne (fun e=>hne (by rw[e]))]
theorem Ck.of_block {w w':World} {B:Nat} {m:List HE} (h:Ck w B m) (hb:w'.heap[B]?=w.heap[B]?):Ck w' B m:=by
 obtain⟨es,c,h1,h2⟩:=h;exact⟨es,c,hb.trans h1,h2⟩
theorem Ck.lt {w:World} {B:Nat} {m:List HE} (h:Ck w B m):B<w.heap.size:=by
 obtain⟨es,c,hb,he⟩:=h;rcases Nat.lt_or_ge B w.heap.size with h|h
 ·exact h
 ·rw[Array.getElem?_eq_none h] at hb;cases hb
theorem Ck.below {w w':World} {B:Nat} {m:List HE} (h:Ck w B m) (hb:Below w.heap.size w w'):Ck w' B m:=h.of_block (hb.block B h.lt)
theorem Ck.new (w:World):Ck (w.alloc (.map #[] 0)) w.heap.size []:=⟨#[],0,heap_alloc_new w _,rfl⟩
theorem Ru (x:Int) (w:World):Calls Tryz.prog 223 #[.int .i64 x] w fun e w'=>e=.returned (.bool false)/\w'=w:=by
 have d:(x != x)=false:=by simp
 go_enter Tryz.func223,Tryz.ntmps223
 go_wp2_with fail
 go_ret;exact⟨by first|rfl|simp,rfl⟩
theorem PS (x:Int) (w:World):Calls Tryz.prog 234 #[.int .i64 x] w fun e w'=>e=.returned (.bool false)/\w'=w:=by
 have d:(x != x)=false:=by simp
 go_enter Tryz.func234,Tryz.ntmps234
 go_wp2_with fail
 go_ret;exact⟨by first|rfl|simp,rfl⟩
def Bl (xs:List Int) (e:Int):Nat:=xs.countP (fun x=>decide (x<e))
def Bx (xs:List Int):Prop:=xs.Pairwise (fun a b=>a<b)
theorem MN {xs:List Int} (h:Bx xs) {i j:Nat} (hij:i<j) (hj:j<xs.length):AI AW xs i<AI AW xs j:=by
 unfold AI;rw[List.getD_eq_getElem?_getD,List.getD_eq_getElem?_getD,List.getElem?_eq_getElem hj,List.getElem?_eq_getElem (by omega)];exact List.pairwise_iff_getElem.1 h i j (by omega) hj hij
theorem XV {xs:List Int} (h:Bx xs) {e:Int} {r:Nat} (hr:r<=xs.length) (h1:∀t,t<r->AI AW xs t<e) (h2:∀t,r<=t->t<xs.length->¬AI AW xs t<e):Bl xs e=r:=by
 unfold Bl;have e1:xs=xs.take r++xs.drop r:=(List.take_append_drop r xs).symm;have at1:∀t (ht:t<xs.length),xs[t]=AI AW xs t:=fun t ht=>by
  unfold AI;rw[List.getD_eq_getElem?_getD,List.getElem?_eq_getElem ht];rfl
 have c1:(xs.take r).countP (fun x=>decide (x<e))=r:=by
  have:(xs.take r).countP (fun x=>decide (x<e))=(xs.take r).length:=by
   rw[List.countP_eq_length];intro x hx;obtain⟨t,ht,rfl⟩:=List.getElem_of_mem hx;rw[List.length_take] at ht;rw[List.getElem_take,at1 t (by omega)];exact decide_eq_true (h1 t (by omega))
  rw[this,List.length_take];omega
 have c2:(xs.drop r).countP (fun x=>decide (x<e))=0:=by
  rw[List.countP_eq_zero];intro x hx;obtain⟨t,ht,rfl⟩:=List.getElem_of_mem hx;rw[List.length_drop] at ht;rw[List.getElem_drop,at1 (r+t) (by omega)];have:=h2 (r+t) (by omega) (by omega);simpa using this
 rw[e1,List.countP_append,c1,c2];rfl
def D3 (xs:List Int) (e:Int):Bool:=decide (Bl xs e<xs.length/\AI AW xs (Bl xs e)=e)
set_option maxHeartbeats 2000000 in
theorem JX (a:Option Addr) (c b:Nat) (xs:List Int) (e0:Int) (w:World) (hn:xs.length<=100000) (hs:Bx xs) (h:A6 AW w b (.slice a xs.length c) xs) : Calls Tryz.prog 181 #[.slice a xs.length c,.int .i64 e0] w fun e w'=>e=.returned (.tuple #[.int .i64 (Bl xs e0:Nat),.bool (D3 xs e0)])/\Below w.heap.size w w'/\Bl xs e0<=xs.length:=by
 have HC:Hid (∀t,t<xs.length->∃g,a=some ⟨g,0,none⟩/\∀wX,Below w.heap.size w wX->g<wX.heap.size/\wX.cell? ⟨g,t,none⟩=some (.int .i64 (AI AW xs t))):=fun t ht=>by
  obtain⟨a',c',e,hf⟩:=h.form;obtain⟨g,N,f,e2,_⟩:=hf (by omega);simp only[Value.slice.injEq,true_and] at e;obtain⟨rfl,rfl⟩:=e;subst e2;exact⟨g,rfl,fun wX hX=>CU (h.below hX) t ht⟩
 have HS:Hid (Bx xs):=hs
 have hless:=fun (x y:Int) (w:World) (b:Bool) (hb:decide (x<y)=b)=>(show Calls Tryz.prog 222 #[.int .i64 x,.int .i64 y] w fun e w'=>e=.returned (.bool b)/\w'=w from by
  have hq:=PS x
  subst hb
  go_enter Tryz.func222,Tryz.ntmps222
  go_wp2_with (go_at_call 234;refine(hq _).mono ?_;rintro e w1 ⟨rfl,hw1⟩;obtain rfl:=hw1.symm)
  go_ret
  exact⟨by first|rfl|simp,rfl⟩)
 have HL:Hid _:=hless;clear h hs hless;go_enter Tryz.func181,Tryz.ntmps181
 go_wp2_with fail
 go_loopw [7,8] (fun s5 s6 wr=>∃(lo hi:Nat),s5=.int .i64 lo/\s6=.int .i64 hi/\lo<=hi/\hi<=xs.length/\Hid ((∀t,t<lo->AI AW xs t<e0)/\(∀t,hi<=t->t<xs.length->e0<=AI AW xs t))/\Below w.heap.size w wr) (fun s5 s6 _=>(intOf s6).toNat-(intOf s5).toNat)
 case atStart=>exact⟨0,xs.length,rfl,rfl,Nat.zero_le _,Nat.le_refl _,⟨fun t ht=>absurd ht (Nat.not_lt_zero _),fun t h1 h2=>by omega⟩,Below.refl _ _⟩
 case round =>
  obtain⟨lo,hi,rfl,rfl,hlh,hin,I,hb⟩:=hrel;by_cases hlt:lo<hi
  ·obtain⟨g,rfl,hc0⟩:=HC.out ((lo+hi)/2) (by omega);obtain⟨hgl,c0⟩:=hc0 wr hb;(have e2:(((lo+hi)/2:Nat):Int)=((lo:Int)+(hi:Int))/2:=by omega);have HB:Hid (Below w.heap.size w wr):=hb;(obtain⟨X,hX⟩:∃X,AI AW xs ((lo+hi)/2)=X:=⟨_,rfl⟩);rw[hX] at c0;have HX:Hid (AI AW xs ((lo+hi)/2)=X):=hX;(have L1:(0:Int)<=((lo:Int)+(hi:Int))/2:=by omega);(have L2:((lo:Int)+(hi:Int))/2<(xs.length:Int):=by omega);(have L3:(((lo:Int)+(hi:Int))/2).toNat=(lo+hi)/2:=by omega);clear hb hc0 hX;by_cases hp:X<e0
   ·(have hl:=fun wX=>HL.out X e0 wX true (decide_eq_true hp));have HP:Hid (X<e0):=hp;clear hp;(go_wp2_with (go_at_call 222;refine(hl _).mono ?_;rintro e w' ⟨rfl,hw'⟩;obtain rfl:=hw'.symm));go_roundw;case rel =>
     refine⟨(lo+hi)/2+1,hi,by rw[show ((lo:Int)+(hi:Int))/2+1=(((lo+hi)/2+1:Nat):Int) by omega],rfl,by omega,hin,⟨fun t ht=>?_,I.out.2⟩,HB.out⟩;by_cases et:t=(lo+hi)/2
     ·rw[et,HX.out];exact HP.out
     ·have:=MN HS.out (i:=t) (j:=(lo+hi)/2) (by omega) (by omega);rw[HX.out] at this;have:=HP.out;omega
    case measure=>simp[intOf];omega
   ·(have hl:=fun wX=>HL.out X e0 wX false (decide_eq_false hp));have HP:Hid (e0<=X):=Int.not_lt.1 hp;clear hp;(go_wp2_with (go_at_call 222;refine(hl _).mono ?_;rintro e w' ⟨rfl,hw'⟩;obtain rfl:=hw'.symm));go_roundw;case rel =>
     refine⟨lo,(lo+hi)/2,rfl,by rw[show ((lo:Int)+(hi:Int))/2=(((lo+hi)/2:Nat):Int) by omega],by omega,by omega,⟨I.out.1,fun t ht htn=>?_⟩,HB.out⟩;by_cases et:t=(lo+hi)/2
     ·rw[et,HX.out];exact HP.out
     ·have:=MN HS.out (i:=(lo+hi)/2) (j:=t) (by omega) htn;rw[HX.out] at this;have:=HP.out;omega
    case measure=>simp[intOf];omega
  ·(obtain rfl:hi=lo:=by omega);have HPO:Hid (Bl xs e0=hi):=XV HS.out hin I.out.1 (fun t h1 h2=>Int.not_lt.2 (I.out.2 t h1 h2));by_cases hl:hi<xs.length
   ·obtain⟨g,rfl,hc0⟩:=HC.out hi hl;obtain⟨hgl,c0⟩:=hc0 wr hb;have dl:decide ((hi:Int)<(xs.length:Int))=true:=decide_eq_true (by omega);(have L1:(0:Int)<=(hi:Int):=by omega);(have L2:(hi:Int)<(xs.length:Int):=by omega);(obtain⟨X,hX⟩:∃X,AI AW xs hi=X:=⟨_,rfl⟩);rw[hX] at c0;by_cases hx:X=e0
    ·(have HF:Hid (D3 xs e0=true):=A5 <| by unfold D3;rw[HPO.out];exact decide_eq_true ⟨hl,by rw[hX];exact hx⟩);(have dx:(X==e0)=true:=by simpa using hx);clear hX hx hc0;(go_wp2_with fail);(go_ret2);exact⟨by rw[HPO.out,HF.out];rfl,hb,by rw[HPO.out];exact hin⟩
    ·(have HF:Hid (D3 xs e0=false):=A5 <| by unfold D3;rw[HPO.out];exact decide_eq_false (fun h=>hx (by rw[<- hX];exact h.2)));(have dx:(X==e0)=false:=by simpa using hx);have hq:=Ru X;clear hX hx hc0;(go_wp2_with (go_at_call 223;refine(hq _).mono ?_;rintro e w1 ⟨rfl,hw1⟩;obtain rfl:=hw1.symm));(go_ret2);exact⟨by rw[HPO.out,HF.out];rfl,hb,by rw[HPO.out];exact hin⟩
   ·(have HF:Hid (D3 xs e0=false):=A5 <| by unfold D3;rw[HPO.out];exact decide_eq_false (fun h=>hl h.1));have dl:decide ((hi:Int)<(xs.length:Int))=false:=decide_eq_false (by omega);(go_wp2_with fail);(go_ret2);exact⟨by rw[HPO.out,HF.out];rfl,hb,by rw[HPO.out];exact hin⟩
end Go.Proofs.YtnmhkgmmpkjjeaaGreat
