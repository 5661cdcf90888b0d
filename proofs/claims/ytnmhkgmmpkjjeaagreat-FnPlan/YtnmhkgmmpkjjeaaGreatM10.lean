import Derived.Test.YtnmhkgmmpkjjeaaGreatM09
import Derived.Laws.StructEq
import Derived.MapKept
import Derived.WideKeyRuns
namespace Go.Proofs.YtnmhkgmmpkjjeaaGreat
open ChangeShapes WideShapes ChangeAt RowKit Proofs.Tryz
set_option linter.all false
set_option maxRecDepth 100000
set_option maxHeartbeats 4000000
attribute [local go_sem ↓] wp_at_zero wp_at_succ
theorem I9(T:Array Value)(k:Nat)(hk:k<16)(x:Int)(hT:T[k]?=some (.int .u64 x))(w:World):(Instr.index 282 (.agg T) (.int .i64 (k:Int))).run prog w=.ok (.int .u64 x) w:=by
 obtain⟨i,hi,h1,h2,h3⟩:=info_parts Fp;simp[Instr.index,run_underlying underlying282,sizeOf,typeInfo,hi,h2,part,hT,asIntOf,hk]
def Wc (w:World) (B:Nat) (v:Value) (L:List P3) (e:Ending) (w':World):Prop :=
 ∃g' c',e=.returned (.slice (some ⟨g',0,none⟩) L.length c')/\BE w' B (.slice (some ⟨g',0,none⟩) L.length c') L/\w.grownBy w' v.ownBlock/\(v.ownBlock=some g'\/w.heap.size<=g')
theorem Eo{w w' w'':World}{row:Option Nat}(h:w.grownBy w' row)(hb:Bl w' w''):w.grownBy w'' row :=
 ⟨hb.os.trans h.os,hb.tape.trans h.tape,hb.output.trans h.output,Nat.le_trans h.size hb.size,fun k hk hne=>(hb.block k (Nat.lt_of_lt_of_le hk h.size)).trans (h.block k hk hne)⟩
theorem U9(g:Nat)(zs:List Int)(c:Nat)(p:P3)(hl:p.lv=3)(B:Nat)(hgB:g<B)(Q:Nat)(hQ:Q<=100000)(v:Value)(qs:List P3)(hqs:qs.length<=Q)(w:World)(hg:BQ w g zs)(hBw:B<=w.heap.size)(hv:BE w B v qs):Calls prog 148 #[v,.agg #[.slice (some ⟨g,0,none⟩) zs.length c],.agg #[.int .i64 p.fr,.int .i64 p.lv,.int .i64 p.pg]] w fun e w'=>Wc w B v (qs++[p]) e w':=by
 obtain⟨i0,hi,hz0,hz1,hz2⟩:=info_parts ET;have hvl:∀q,v.ownBlock=some q->B<=q/\q<w.heap.size:=World.ownsRow.lt hv
 have HV:=A5 hv;have HVL:=A5 hvl;have HG:=A5 hg;have HL:=A5 hl;clear hv hvl hg hl;go_enter func148,ntmps148
 go_wp2_with (at_builtin;refine wpList_append_lies _ rfl (.tmp 11) (.tmp 13) 61 rfl B 67 i0 _ 3 24 underlying61 hi hz0 hz1 hz2 rfl (by omega) _ _ _ rfl (World.ownsRow.alloc (World.ownsRow.alloc (World.ownsRow.alloc HV.out _) _) _) ⟨w.heap.size+1+1,0,none⟩ 1 1 [.int .i64 p.fr,.int .i64 p.lv,.int .i64 p.pg] rfl rfl ?c1 ?c2 (by omega) ?c3 ?c4 ?c5 (w.heap.size+3) ?c6 ?_)
 case c1 =>
  have:=World.news_of_block (heap_alloc_new ((w.alloc (.cells #[.slice (some ⟨g,0,none⟩) zs.length c] 35)).alloc (.cells #[.int .i64 p.fr,.int .i64 p.lv,.int .i64 p.pg] 67)) (.cells #[.int .i64 p.fr,.int .i64 p.lv,.int .i64 p.pg] 67));simpa using this
 case c2=>intro u hu;simp at hu;rcases hu with rfl|rfl|rfl<;>rfl
 case c3=>unfold maxLen;omega
 case c4=>omega
 case c5=>simp;omega
 case c6=>simp
 intro g1 cap1 wn hown hgrow hat hlt3;have hsn:=hgrow.size;simp at hsn;have hnew:BE wn B (.slice (some ⟨g1,0,none⟩) (qs.length+1) cap1) (qs++[p]):=by
  unfold BE;rw[List.length_append,EY];exact hown
 have hvne:∀k,w.heap.size<=k->some k≠v.ownBlock:=fun k hk h=>by have:=HVL.out k h.symm;omega
 have hgw:w.grownBy wn v.ownBlock:=by
  refine⟨hgrow.os,hgrow.tape,hgrow.output,by omega,fun k hk hne=>?_⟩;rw[hgrow.block k (by simp;omega) hne,Below.heap_alloc _ _ _ (by simp;omega),Below.heap_alloc _ _ _ (by simp;omega),Below.heap_alloc _ _ _ hk]
 have b2:wn.cell? ⟨w.heap.size+1,1,none⟩=some (.int .i64 p.lv):=by
  rw[World.cell?_of_block (hgrow.block (w.heap.size+1) (by simp) (hvne _ (by omega)))];simp[go_sem]
 have hgv:some g≠v.ownBlock:=fun h=>by have:=HVL.out g h.symm;omega
 have hat':v.ownBlock=some g1\/w.heap.size+2<=g1:=hat.elim .inl (fun h=>.inr (by omega));have h3:(p.lv==3)=true:=by simp[HL.out]
 have HNEW:=A5 hnew;have HGW:=A5 hgw;have HAT:=A5 hat';clear hown hgrow hat hnew hgw hat' hvne hgv;go_wp2_with fail
 go_ret;exact⟨g1,cap1,by rw[List.length_append];rfl,by rw[List.length_append];exact HNEW.out,HGW.out,HAT.out.elim .inl (fun h=>.inr (by omega))⟩
theorem UL(g:Nat)(zs:List Int)(c:Nat)(p:P3)(F:Nat)(hF:p.fr=F)(hF2:F*16+16<=zs.length)(hlen:zs.length<=8192)(hcc:zs.length<=c)(hl1:1<=p.lv)(hl2:p.lv<3)(hp0:0<=p.pg)(hp1:p.pg<=4096*p.lv)(rec:P3->List P3)(hB:∀q,(rec q).length<=300)(n:Int)(hn:n*16=zs.length)(hd:∀i,i<16->∀w,Calls prog 151 #[.int .i64 p.lv,.int .u64 (AC zs p.fr i)] w fun e w'=>e=.returned (.agg #[.int .i64 (AG p.lv (AC zs p.fr i)),.int .i64 (AX p.lv (AC zs p.fr i)),.int .i64 (Ak p.lv (AC zs p.fr i))])/\Bl w w')(B:Nat)(hgB:g<B)(Q:Nat)(hQ:Q<=100000)(ih:∀i w v qs,i<16->Dq zs n p i=true->BQ w g zs->B<=w.heap.size->qs.length<=Q+5000->BE w B v qs->Calls prog 148 #[v,.agg #[.slice (some ⟨g,0,none⟩) zs.length c],.agg #[.int .i64 (Af zs p i).fr,.int .i64 (Af zs p i).lv,.int .i64 (Af zs p i).pg]] w fun e w'=>Wc w B v (qs++rec (Af zs p i)) e w')(v:Value)(qs:List P3)(hqs:qs.length<=Q)(w:World)(hg:BQ w g zs)(hBw:B<=w.heap.size)(hv:BE w B v qs):Calls prog 148 #[v,.agg #[.slice (some ⟨g,0,none⟩) zs.length c],.agg #[.int .i64 p.fr,.int .i64 p.lv,.int .i64 p.pg]] w fun e w'=>Wc w B v (qs++Ar zs n rec p 16) e w':=by
 obtain⟨i0,hi,hz0,hz1,hz2⟩:=info_parts ET;have hvl:∀q,v.ownBlock=some q->B<=q/\q<w.heap.size:=World.ownsRow.lt hv
 have HV:=A5 hv;have HVL:=A5 hvl;have HIH:=A5 ih;have HD:=A5 hd;have HF:=A5 hF;have HG:=A5 hg;clear hv hvl ih hd hF hg;go_enter func148,ntmps148
 go_wp2_with (at_builtin;refine wpList_append_lies _ rfl (.tmp 11) (.tmp 13) 61 rfl B 67 i0 _ 3 24 underlying61 hi hz0 hz1 hz2 rfl (by omega) _ _ _ rfl (World.ownsRow.alloc (World.ownsRow.alloc (World.ownsRow.alloc HV.out _) _) _) ⟨w.heap.size+1+1,0,none⟩ 1 1 [.int .i64 p.fr,.int .i64 p.lv,.int .i64 p.pg] rfl rfl ?c1 ?c2 (by omega) ?c3 ?c4 ?c5 (w.heap.size+3) ?c6 ?_)
 case c1 =>
  have:=World.news_of_block (heap_alloc_new ((w.alloc (.cells #[.slice (some ⟨g,0,none⟩) zs.length c] 35)).alloc (.cells #[.int .i64 p.fr,.int .i64 p.lv,.int .i64 p.pg] 67)) (.cells #[.int .i64 p.fr,.int .i64 p.lv,.int .i64 p.pg] 67));simpa using this
 case c2=>intro u hu;simp at hu;rcases hu with rfl|rfl|rfl<;>rfl
 case c3=>unfold maxLen;omega
 case c4=>omega
 case c5=>simp;omega
 case c6=>simp
 intro g1 cap1 wn hown hgrow hat hlt3;have hsn:=hgrow.size;simp at hsn;have hnew:BE wn B (.slice (some ⟨g1,0,none⟩) (qs.length+1) cap1) (qs++Ar zs n rec p 0):=by
  unfold BE;rw[Ke,List.length_append,EY];exact hown
 have hvne:∀k,w.heap.size<=k->some k≠v.ownBlock:=fun k hk h=>by have:=HVL.out k h.symm;omega
 have hgw:w.grownBy wn v.ownBlock:=by
  refine⟨hgrow.os,hgrow.tape,hgrow.output,by omega,fun k hk hne=>?_⟩;rw[hgrow.block k (by simp;omega) hne,Below.heap_alloc _ _ _ (by simp;omega),Below.heap_alloc _ _ _ (by simp;omega),Below.heap_alloc _ _ _ hk]
 have b0:wn.cell? ⟨w.heap.size,0,none⟩=some (.slice (some ⟨g,0,none⟩) zs.length c):=by
  rw[World.cell?_of_block (hgrow.block w.heap.size (by simp;omega) (hvne _ (Nat.le_refl _)))];simp[go_sem]
 have b1:wn.cell? ⟨w.heap.size+1,0,none⟩=some (.int .i64 p.fr):=by
  rw[World.cell?_of_block (hgrow.block (w.heap.size+1) (by simp) (hvne _ (by omega)))];simp[go_sem]
 have b2:wn.cell? ⟨w.heap.size+1,1,none⟩=some (.int .i64 p.lv):=by
  rw[World.cell?_of_block (hgrow.block (w.heap.size+1) (by simp) (hvne _ (by omega)))];simp[go_sem]
 have b3:wn.cell? ⟨w.heap.size+1,2,none⟩=some (.int .i64 p.pg):=by
  rw[World.cell?_of_block (hgrow.block (w.heap.size+1) (by simp) (hvne _ (by omega)))];simp[go_sem]
 have hgv:some g≠v.ownBlock:=fun h=>by have:=HVL.out g h.symm;omega
 have hgn:BQ wn g zs:=BQ.of_block HG.out (hgw.block g HG.out.lt hgv);have hat':v.ownBlock=some g1\/w.heap.size+2<=g1:=hat.elim .inl (fun h=>.inr (by omega));rw[HF.out] at b1;have HNEW:=A5 hnew;have HGW:=A5 hgw;have HAT:=A5 hat';have HGV:=A5 hgv;have htab:=Jw g zs c F hF2 hlen hcc wn hgn;have hne3:(p.lv==3)=false:=by simp;omega
 clear hown hgrow hat hnew hgw hat' hgn hvne hgv;go_wp2_with fail
 refine htab.mono ?_;rintro e wt ⟨⟨T,rfl,hTs,hT⟩,hbt⟩;have hst:=hbt.size;have t0:=(hbt.cell (p:=⟨w.heap.size,0,none⟩) (by simp;omega)).trans b0;have t1:=(hbt.cell (p:=⟨w.heap.size+1,0,none⟩) (by simp;omega)).trans b1;have t2:=(hbt.cell (p:=⟨w.heap.size+1,1,none⟩) (by simp;omega)).trans b2;have t3:=(hbt.cell (p:=⟨w.heap.size+1,2,none⟩) (by simp;omega)).trans b3;have HST:Hid (BE wt B (.slice (some ⟨g1,0,none⟩) (qs.length+1) cap1) (qs++Ar zs n rec p 0)/\w.grownBy wt v.ownBlock/\w.heap.size+2<=wt.heap.size/\wt.cell? ⟨w.heap.size,0,none⟩=some (.slice (some ⟨g,0,none⟩) zs.length c)/\wt.cell? ⟨w.heap.size+1,0,none⟩=some (.int .i64 F)/\wt.cell? ⟨w.heap.size+1,1,none⟩=some (.int .i64 p.lv)/\wt.cell? ⟨w.heap.size+1,2,none⟩=some (.int .i64 p.pg)) :=
  ⟨HNEW.out.below hbt,Eo HGW.out hbt,by omega,t0,t1,t2,t3⟩
 have HT:=A5 hT;clear htab hbt t0 t1 t2 t3 b0 b1 b2 b3 hT hst;go_wp2_with fail
 go_loopw [0,23] (fun v0 iv wr=>∃k gv cv:Nat,k<=16/\iv=.int .i64 k/\v0=.slice (some ⟨gv,0,none⟩) (qs++Ar zs n rec p k).length cv/\BE wr B (.slice (some ⟨gv,0,none⟩) (qs++Ar zs n rec p k).length cv) (qs++Ar zs n rec p k)/\(v.ownBlock=some gv\/w.heap.size+2<=gv)/\w.grownBy wr v.ownBlock/\w.heap.size+2<=wr.heap.size/\wr.cell? ⟨w.heap.size,0,none⟩=some (.slice (some ⟨g,0,none⟩) zs.length c)/\wr.cell? ⟨w.heap.size+1,0,none⟩=some (.int .i64 F)/\wr.cell? ⟨w.heap.size+1,1,none⟩=some (.int .i64 p.lv)/\wr.cell? ⟨w.heap.size+1,2,none⟩=some (.int .i64 p.pg)) (fun _ iv _=>16-(intOf iv).toNat)
 case atStart =>
  obtain⟨s1,s2,s3,s4,s5,s6,s7⟩:=HST.out;have el:(qs++Ar zs n rec p 0).length=qs.length+1:=by rw[Ke,List.length_append];rfl
  exact⟨0,g1,cap1,by omega,rfl,by rw[el],by rw[el];exact s1,HAT.out,s2,s3,s4,s5,s6,s7⟩
 case round =>
  obtain⟨k,gv,cv,hk,rfl,rfl,hrow,hat,hgr,hsz,c0,c1,c2,c3⟩:=hrel;have hBL:=Ez zs n rec p 300 hB k;by_cases hlt:k<16
  ·have hgn:BQ wr g zs:=BQ.of_block HG.out (hgr.block g HG.out.lt HGV.out);have hTk:=HT.out k hlt;(have ew:zs.getD (F*16+k) 0=AC zs p.fr k:=by simp[AC,HF.out];congr 1);rw[ew] at hTk;have hdk:=HD.out k hlt;have dO:=Ci p.lv (AC zs p.fr k);have hdd:=GJ zs n rec p k;have hih:=HIH.out k;unfold Af at hih hdd;unfold Dq at hih hdd;have HDD:=A5 hdd;have HIK:=A5 hih;have HRW:=A5 hrow;have HGR:=A5 hgr;have HGN2:=A5 hgn;have HATk:=A5 hat;clear ew hdd hih hrow hgr hgn hat;generalize AC zs p.fr k=X at *;generalize AG p.lv X=K at *;generalize AX p.lv X=O at *;generalize Ak p.lv X=M at *;(have L1:(0:Int)<=(k:Int):=by omega);(have L2:(k:Int)<16:=by omega);have hix:=I9 T k hlt X hTk;have hfr:=Ey (some ⟨g,0,none⟩) zs.length c O n hn dO.1 hlen;clear hTk hTs;(go_wp2_with fail);refine(hdk wr).mono ?_;rintro e w1 ⟨rfl,hb1⟩;have hs1:=hb1.size;have e0:=(hb1.cell (p:=⟨w.heap.size,0,none⟩) (by simp;omega)).trans c0;have e1:=(hb1.cell (p:=⟨w.heap.size+1,0,none⟩) (by simp;omega)).trans c1;have e2:=(hb1.cell (p:=⟨w.heap.size+1,1,none⟩) (by simp;omega)).trans c2;have e3:=(hb1.cell (p:=⟨w.heap.size+1,2,none⟩) (by simp;omega)).trans c3;(have N1:w.heap.size<w1.heap.size:=by omega);(have N2:w.heap.size+1<w1.heap.size:=by omega);have HB1:=A5 hb1;clear c0 c1 c2 c3 hdk hix hb1;by_cases hK:K=1
   ·subst hK;by_cases hO:O<n
    ·(have hO':decide (O<n)=true:=by simpa using hO);rw[hO'] at hfr;have hcov:=BJ p.lv;have hC0:=Ku p.lv;have hrec:=HIK.out;simp only[hO',decide_true,Bool.and_true] at hrec;have hx:Ar zs n rec p (k+1)=Ar zs n rec p k++rec ⟨O,p.lv+1,p.pg+k*BX p.lv⟩:=by
      have h:=HDD.out;rw[hO'] at h;simpa using h
     have HX:=A5 hx;generalize BX p.lv=C at *;have y0:0<=(k:Int)*C:=Int.mul_nonneg (by omega) hC0.1;have y1:(k:Int)*C<=15*256:=Int.mul_le_mul (by omega) hC0.2 hC0.1 (by omega);have Wy:=AR ((k:Int)*C);have Wz:=AR (p.pg+(k:Int)*C);have Wl:=AR (p.lv+1);have HREC:=A5 hrec;clear hx hrec HDD HIK HIH HD;(go_upto_region 9 with(go_at_call 155;refine(hfr _).mono ?_;rintro e w4 ⟨rfl,hb4⟩));have hs4:=hb4.size;simp at hs4;have hb14:Bl wr w4:=(HB1.out.alloc hs1 _).trans (hb4.mono (by simp;omega));(have d1:w4.cell? ⟨w1.heap.size,1,none⟩=some (.int .i64 O):=by rw[hb4.cell (by simp)];simp[go_sem]);(have e0':w4.cell? ⟨w.heap.size,0,none⟩=some (.slice (some ⟨g,0,none⟩) zs.length c):=by rw[hb4.cell (by simp;omega)];simp[go_sem,e0,N1]);(have e1':w4.cell? ⟨w.heap.size+1,0,none⟩=some (.int .i64 F):=by rw[hb4.cell (by simp;omega)];simp[go_sem,e1,N2]);(have e2':w4.cell? ⟨w.heap.size+1,1,none⟩=some (.int .i64 p.lv):=by rw[hb4.cell (by simp;omega)];simp[go_sem,e2,N2]);(have e3':w4.cell? ⟨w.heap.size+1,2,none⟩=some (.int .i64 p.pg):=by rw[hb4.cell (by simp;omega)];simp[go_sem,e3,N2]);have HB14:=A5 hb14;clear e0 e1 e2 e3 hfr hb4 hb14;(go_cut [10] (fun d10 wx=>∃E,d10=.pointer (some ⟨E,0,none⟩)/\wx.cell? ⟨E,0,none⟩=some (.int .i64 O)/\wx.cell? ⟨E,1,none⟩=some (.int .i64 (p.lv+1))/\wx.cell? ⟨E,2,none⟩=some (.int .i64 (p.pg+(k:Int)*C))/\E<wx.heap.size/\Bl w4 wx));case first =>
      have HK:Hid (∀wX,Bl w4 wX->wX.cell? ⟨w1.heap.size,1,none⟩=some (.int .i64 O)/\wX.cell? ⟨w.heap.size+1,1,none⟩=some (.int .i64 p.lv)/\wX.cell? ⟨w.heap.size+1,2,none⟩=some (.int .i64 p.pg)) :=
       fun wX h=>⟨(h.cell (by first|omega|(simp<;>omega))).trans d1,(h.cell (by first|omega|(simp<;>omega))).trans e2',(h.cell (by first|omega|(simp<;>omega))).trans e3'⟩
      go_region_held3 (fun w'=>w'.cell? ⟨w1.heap.size,1,none⟩=some (.int .i64 O)/\w'.cell? ⟨w.heap.size+1,1,none⟩=some (.int .i64 p.lv)/\w'.cell? ⟨w.heap.size+1,2,none⟩=some (.int .i64 p.pg))
       ((refine HK.out _ ?_;exact BH))
       (first|(go_at_call 168;refine(hcov _).mono ?_;rintro e w3 ⟨rfl,rfl⟩))
      all_goals
       go_wp2_with fail
       go_meet
       case rel =>
        refine⟨_,rfl,?_,?_,?_,?_,?_⟩
        ·simp[go_sem]
        ·simp[go_sem]
        ·simp[go_sem]
        ·first|omega|(simp<;>omega)
        ·exact BH
     case rest =>
      obtain⟨E,rfl,f0,f1,f2,hE,hbE⟩:=hcut;have g0:=(hbE.cell (p:=⟨w.heap.size,0,none⟩) (by simp;omega)).trans e0';have g1':=(hbE.cell (p:=⟨w.heap.size+1,0,none⟩) (by simp;omega)).trans e1';have g2:=(hbE.cell (p:=⟨w.heap.size+1,1,none⟩) (by simp;omega)).trans e2';have g3:=(hbE.cell (p:=⟨w.heap.size+1,2,none⟩) (by simp;omega)).trans e3';have hbc:Bl wr wc:=HB14.out.trans (hbE.mono (by omega));have hsc:=hbc.size;have hrw:BE wc B (.slice (some ⟨gv,0,none⟩) (qs.length+(Ar zs n rec p k).length) cv) (qs++Ar zs n rec p k):=by
       have:=HRW.out.below hbc;rwa [List.length_append] at this
      have hgc:BQ wc g zs:=HGN2.out.below hbc HGN2.out.lt;have hrec:=HREC.out wc (.slice (some ⟨gv,0,none⟩) (qs.length+(Ar zs n rec p k).length) cv) (qs++Ar zs n rec p k) hlt trivial hgc (by omega) (by rw[List.length_append];omega) hrw;have HBC:=A5 hbc;have Hbox:Hid (wc.cell? ⟨w.heap.size,0,none⟩=some (.slice (some ⟨g,0,none⟩) zs.length c)/\wc.cell? ⟨w.heap.size+1,0,none⟩=some (.int .i64 F)/\wc.cell? ⟨w.heap.size+1,1,none⟩=some (.int .i64 p.lv)/\wc.cell? ⟨w.heap.size+1,2,none⟩=some (.int .i64 p.pg)):=⟨g0,g1',g2,g3⟩;clear e0' e1' e2' e3' d1 hbE hcov Wy Wz Wl hrw hgc hbc HREC;(go_wp2_with fail);refine hrec.mono ?_;rintro e w5 ⟨g5,c5,rfl,hp5,hgr5,hat5⟩;have hgr5':wc.grownBy w5 (some gv):=hgr5;have hat5':gv=g5\/wc.heap.size<=g5:=by
       rcases hat5 with h|h
       ·exact .inl (by simpa [Value.ownBlock] using h)
       ·exact .inr h
      (have hgvl:∀q,v.ownBlock=some q->q<w.heap.size:=fun q hq=>(HVL.out q hq).2);have hgv0:gv≠w.heap.size/\gv≠w.heap.size+1:=by
       rcases HATk.out with h|h
       ·have:=hgvl gv h;omega
       ·omega
      have hs5:=hgr5'.size;obtain⟨g0,g1',g2,g3⟩:=Hbox.out;have k0:w5.cell? ⟨w.heap.size,0,none⟩=some (.slice (some ⟨g,0,none⟩) zs.length c):=by
       rw[World.cell?_of_block (hgr5'.block w.heap.size (by omega) (by simp only[ne_eq,Option.some.injEq];omega))];exact g0
      have k1:w5.cell? ⟨w.heap.size+1,0,none⟩=some (.int .i64 F):=by
       rw[World.cell?_of_block (hgr5'.block (w.heap.size+1) (by omega) (by simp only[ne_eq,Option.some.injEq];omega))];exact g1'
      have k2:w5.cell? ⟨w.heap.size+1,1,none⟩=some (.int .i64 p.lv):=by
       rw[World.cell?_of_block (hgr5'.block (w.heap.size+1) (by omega) (by simp only[ne_eq,Option.some.injEq];omega))];exact g2
      have k3:w5.cell? ⟨w.heap.size+1,2,none⟩=some (.int .i64 p.pg):=by
       rw[World.cell?_of_block (hgr5'.block (w.heap.size+1) (by omega) (by simp only[ne_eq,Option.some.injEq];omega))];exact g3
      have hgw5:w.grownBy w5 v.ownBlock:=by
       have h1:=Eo HGR.out HBC.out;refine⟨hgr5'.os.trans h1.os,hgr5'.tape.trans h1.tape,hgr5'.output.trans h1.output,by omega,fun q hq hne=>?_⟩;refine(hgr5'.block q (by omega) ?_).trans (h1.block q hq hne);intro e5;simp only[Option.some.injEq] at e5;rcases HATk.out with h|h
       ·exact hne (by rw[h,e5])
       ·omega
      have hat6:v.ownBlock=some g5\/w.heap.size+2<=g5:=by
       rcases hat5' with h|h
       ·rw[<- h];exact HATk.out
       ·exact .inr (by omega)
      have HP5:=A5 hp5;have HAT6:=A5 hat6;have HGW5:=A5 hgw5;clear hp5 hgr5 hgr5' hat5 hat5' hat6 hgw5 hrec g0 g1' g2 g3 hgv0 hgvl;(go_wp2_with fail);go_roundw;case rel =>
       refine⟨k+1,g5,c5,by omega,by go_num,?_⟩;rw[HX.out,<- List.append_assoc];exact⟨by first|rfl|simp,HP5.out,HAT6.out,HGW5.out,by omega,k0,k1,k2,k3⟩
      case measure=>simp[intOf];omega
    ·(have hO':decide (O<n)=false:=by simpa using hO);rw[hO'] at hfr;have hx:Ar zs n rec p (k+1)=Ar zs n rec p k:=by
      have h:=HDD.out;rw[hO'] at h;simpa using h
     have HX:=A5 hx;clear hx;(go_wp2_with (go_at_call 155;refine(hfr _).mono ?_;rintro e w4 ⟨rfl,hb4⟩));go_roundw;case rel =>
      have hb14:Bl wr w4:=(HB1.out.alloc hs1 _).trans (hb4.mono (by simp;omega));refine⟨k+1,gv,cv,by omega,by go_num,?_⟩;rw[HX.out]
      exact⟨by rw[List.length_append],HRW.out.below hb14,HATk.out,Eo HGR.out hb14,by have:=hb14.size;omega,
       by rw[hb4.cell (by simp;omega)];simp[go_sem,e0,N1],by rw[hb4.cell (by simp;omega)];simp[go_sem,e1,N2],by rw[hb4.cell (by simp;omega)];simp[go_sem,e2,N2],by rw[hb4.cell (by simp;omega)];simp[go_sem,e3,N2]⟩
     case measure=>simp[intOf];omega
   ·(have hK':(K==1)=false:=by simpa using hK);have hx:Ar zs n rec p (k+1)=Ar zs n rec p k:=by
     have h:=HDD.out;simp only[hK,decide_false,Bool.false_and] at h;simpa using h
    have HX:=A5 hx;clear hx hK;(go_wp2_with fail);go_roundw;case rel =>
     have hb14:Bl wr (w1.alloc (.cells #[.int .i64 K,.int .i64 O,.int .i64 M] 126)):=HB1.out.alloc hs1 _;refine⟨k+1,gv,cv,by omega,by go_num,?_⟩;rw[HX.out]
     exact⟨by rw[List.length_append],HRW.out.below hb14,HATk.out,Eo HGR.out hb14,by have:=hb14.size;omega,
      by simp[go_sem,e0,N1],by simp[go_sem,e1,N2],by simp[go_sem,e2,N2],by simp[go_sem,e3,N2]⟩
    case measure=>simp[intOf];omega
  ·(have e:k=16:=by omega);subst e;(go_wp2_with fail);go_ret;exact⟨gv,cv,by rw[List.length_append];rfl,hrow,hgr,hat.elim .inl (fun h=>.inr (by omega))⟩
def DM:Dw (Nat×Nat):=⟨223,2,fun x=>[.int .i64 x.1,.int .i64 x.2],(0,0),by omega,fun _=>rfl⟩
theorem Pv:(prog.info? 223).map (fun i=>(i.zero,i.size,i.bytes))=some (some (.agg #[.int .i64 0,.int .i64 0]),2,16):=by kernel_rfl
structure CZ (w:World) (g:Nat) (H:Nat->Ht):Prop where
 lt:g<w.heap.size
 cells:∀p,p<4096->w.cell? ⟨g,p*4,none⟩=some (.int .i64 (H p).k)/\w.cell? ⟨g,p*4+1,none⟩=some (.int .i64 (H p).o)/\w.cell? ⟨g,p*4+2,none⟩=some (.int .i64 (H p).p)/\w.cell? ⟨g,p*4+3,none⟩=some (.int .i64 (H p).s)
theorem CZ.of_block{w w':World}{g:Nat}{H:Nat->Ht}(h:CZ w g H)(hs:w.heap.size<=w'.heap.size)(hb:w'.heap[g]?=w.heap[g]?):CZ w' g H :=
 ⟨Nat.lt_of_lt_of_le h.lt hs,fun p hp=>⟨(F2 hb).trans (h.cells p hp).1,(F2 hb).trans (h.cells p hp).2.1,(F2 hb).trans (h.cells p hp).2.2.1,(F2 hb).trans (h.cells p hp).2.2.2⟩⟩
theorem CZ.below{w w':World}{g:Nat}{H:Nat->Ht}(h:CZ w g H)(hb:Bl w w'):CZ w' g H:=h.of_block hb.size (hb.block g h.lt)
theorem I7(l p i:Int)(hl1:1<=l)(hl2:l<=3)(hp0:0<=p)(hp1:p<=8192)(hi0:0<=i)(hi1:i<=16)(w:World):Calls prog 180 #[.agg #[.int .i64 l,.int .i64 p],.int .i64 i] w fun e w'=>e=.returned (.agg #[.int .i64 (l+1),.int .i64 (p+i*BX l)])/\Bl w w':=by
 obtain⟨wb,hwb⟩:∃wb,wb=(w.alloc (.cells #[.int .i64 l,.int .i64 p] 223)).alloc (.cells #[.int .i64 0,.int .i64 0] 223):=⟨_,rfl⟩
 have hbb:Bl w wb:=by rw[hwb];exact AO.alloc (by simp) _
 have hzb:wb.heap.size=w.heap.size+2:=by rw[hwb];simp
 have q0:wb.cell? ⟨w.heap.size,0,none⟩=some (.int .i64 l):=by rw[hwb];simp[go_sem]
 have q1:wb.cell? ⟨w.heap.size,1,none⟩=some (.int .i64 p):=by rw[hwb];simp[go_sem]
 have r0:wb.cell? ⟨w.heap.size+1,0,none⟩=some (.int .i64 0):=by rw[hwb];simp[go_sem]
 have r1:wb.cell? ⟨w.heap.size+1,1,none⟩=some (.int .i64 0):=by rw[hwb];simp[go_sem]
 have f0:wb.frozen? ⟨w.heap.size+1,0,none⟩=false:=by rw[hwb];simp[go_sem]
 have f1:wb.frozen? ⟨w.heap.size+1,1,none⟩=false:=by rw[hwb];simp[go_sem]
 have HK:Hid (∀wX,Below (w.heap.size+1) wb wX->wX.cell? ⟨w.heap.size,0,none⟩=some (.int .i64 l)/\wX.cell? ⟨w.heap.size,1,none⟩=some (.int .i64 p)):=fun wX hX=>⟨(hX.cell (by simp)).trans q0,(hX.cell (by simp)).trans q1⟩
 have hcv:=BJ l;have hcb:=Ku l;generalize BX l=C at *;have hm0:0<=i*C:=Int.mul_nonneg hi0 hcb.1;have hm1:i*C<=16*256:=Int.mul_le_mul hi1 hcb.2 hcb.1 (by decide);have W1:=AR (i*C);have W2:=AR (p+i*C);have W3:=AR (l+1);have HWB:=A5 hwb;have HBB:=A5 hbb;clear hwb hbb hzb q0 q1;go_enter func180,ntmps180
 go_wp2_with fail
 rw[<- HWB.out];go_region_held3 (fun wX=>wX.cell? ⟨w.heap.size,0,none⟩=some (.int .i64 l)/\wX.cell? ⟨w.heap.size,1,none⟩=some (.int .i64 p))
  ((refine HK.out _ ?_;repeat (first|exact AH|with_reducible refine Below.drew ?_|with_reducible refine Below.setCell ?_ (by first|omega|(simp<;>omega)) _)))
  (first|(go_at_call 168;refine(hcv _).mono ?_;rintro e w1 ⟨rfl,hw1⟩;subst hw1))
 go_wp2_with fail
 refine bodyPost_ret (v:=.agg #[.int .i64 (l+1),.int .i64 (p+i*C)]) (by simp[results,results180,go_sem,r0,r1]) rfl ⟨rfl,?_⟩;exact(HBB.out.drew.setCell (Nat.le_succ _) _).setCell (Nat.le_succ _) _
structure HE where
 lv:Int
 pg:Int
 fr:Int
 kp:Bool
abbrev kV (lv pg:Int):Value:=.agg #[.int .i64 lv,.int .i64 pg]
abbrev hV (f:Int) (k:Bool):Value:=.agg #[.int .i64 f,.bool k]
theorem Yt(a b c d:Int)(w:World):(Op.equal 223 (kV a b) (kV c d)).run prog w=.ok (decide (a=c/\b=d)) w:=by
 have hS:prog.underlying 223=some (.struct (prog.fieldsOf 223)):=by kernel_rfl
 have hp:prog.stoodInHeld 223=false:=by kernel_rfl
 unfold Op.equal;rw[show Op.maxDepth=9999+1 from rfl,run_equalIn_struct w 9999 223 _ _ hS hp];simp only[Program.fieldsOf,underlying223];go_simp;by_cases h1:a=c<;>by_cases h2:b=d<;>simp[h1,h2]
theorem Mx(e:Bool)(a b:Int)(w:World):(Instr.checkKey e 10000 223 (kV a b)).run prog w=.ok () w:=by
 cases e<;>kernel_rfl
def Vl (h:HE):Value×Value:=(kV h.lv h.pg,hV h.fr h.kp)
def Cw (w:World) (B:Nat) (m:List HE):Prop:=∃es c,w.heap[B]?=some (.map es c)/\es.toList.map (fun e=>(e.key,e.val))=m.map Vl
def Sf (lv pg:Int) (h:HE):Bool:=decide (lv=h.lv/\pg=h.pg)
def FX (m:List HE) (lv pg:Int):Option HE:=m.find? (Sf lv pg)
theorem Rk(lv pg:Int)(w:World):∀(es:List MapEntry) (m:List HE) (i:Nat),es.map (fun e=>(e.key,e.val))=m.map Vl->∃j,(Instr.findAsking 223 (kV lv pg) es i).run prog w=.ok ((FX m lv pg).map fun h=>(j,hV h.fr h.kp)) w
 | [],m,i,h=>by
  have:m=[]:=by cases m with
   | nil=>rfl
   | cons a r=>simp at h
  subst this;exact⟨0,by simp[Instr.findAsking,FX]⟩
 | e :: es,[],i,h=>by simp at h
 | e :: es,a :: r,i,h=>by
  simp only[List.map_cons,List.cons.injEq,Vl,Prod.mk.injEq] at h;obtain⟨⟨h1,h2⟩,h3⟩:=h;have hq:=Yt lv pg a.lv a.pg w;by_cases hh:lv=a.lv/\pg=a.pg
  ·refine⟨i,?_⟩;rw[decide_eq_true hh] at hq;unfold Instr.findAsking FX;rw[List.find?_cons_of_pos (by unfold Sf;exact decide_eq_true hh),h1];simp[hq,h2]
  ·obtain⟨j,hj⟩:=Rk lv pg w es r (i+1) h3;refine⟨j,?_⟩;rw[decide_eq_false hh] at hq;unfold Instr.findAsking FX;rw[List.find?_cons_of_neg (by unfold Sf;rw[decide_eq_false hh];decide),h1];simp only[Sem.run_bind,hq,Result.andThen_ok,Bool.false_eq_true,if_false];exact hj
theorem PS(lv pg:Int)(w:World)(es:List MapEntry)(m:List HE)(h:es.map (fun e=>(e.key,e.val))=m.map Vl):∃j,(Instr.findKey 223 (kV lv pg) es).run prog w=.ok ((FX m lv pg).map fun h=>(j,hV h.fr h.kp)) w:=by
 obtain⟨j,hj⟩:=Rk lv pg w es m 0 h;refine⟨j,?_⟩;rw[<- hj];exact run_findKey_eq w (k:=223) (by kernel_rfl) _ _
theorem U2(w:World):(zeroValue 227).run prog w=.ok (hV 0 false) w:=by kernel_rfl
def Ft (m:List HE) (lv pg:Int):Value:=match FX m lv pg with
 | some h=>hV h.fr h.kp
 | none=>hV 0 false
theorem Gk(B:Nat)(m:List HE)(lv pg:Int)(ok:Bool)(w:World)(h:Cw w B m):(Instr.lookup 158 (.map (some B)) (kV lv pg) ok).run prog w=.ok (if ok then .tuple #[Ft m lv pg,.bool (FX m lv pg).isSome] else Ft m lv pg) w:=by
 obtain⟨es,c,hb,he⟩:=h;obtain⟨j,hj⟩:=PS lv pg w es.toList m he;unfold Instr.lookup Ft;simp only[Sem.run_bind,run_underlying underlying158,Result.andThen_ok,MapKept.run_getObj_map hb,Sem.run_pure,Mx,hj];cases hm:FX m lv pg with
 | none=>cases ok<;>simp[U2]
 | some q=>cases ok<;>simp
theorem Rg(B:Nat)(m:List HE)(x:HE)(w:World)(h:Cw w B m)(hn:FX m x.lv x.pg=none):∃w',(Instr.mapUpdate 158 (.map (some B)) (kV x.lv x.pg) (hV x.fr x.kp)).run prog w=.ok () w'/\Cw w' B (m++[x])/\w.grownBy w' (some B)/\w'.heap.size=w.heap.size:=by
 obtain⟨es,c,hb,he⟩:=h;obtain⟨j,hj⟩:=PS x.lv x.pg w es.toList m he;rw[hn] at hj;have hlt:B<w.heap.size:=by
  rcases Nat.lt_or_ge B w.heap.size with h|h
  ·exact h
  ·rw[Array.getElem?_eq_none h] at hb;cases hb
 refine⟨{ w with heap:=w.heap.setIfInBounds B (.map (es.push { key:=kV x.lv x.pg,val:=hV x.fr x.kp,born:=c }) (c+1)) },?_,⟨es.push { key:=kV x.lv x.pg,val:=hV x.fr x.kp,born:=c },c+1,?_,?_⟩,⟨rfl,rfl,rfl,by simp,fun k hk hne=>?_⟩,by simp⟩
 ·unfold Instr.mapUpdate;simp only[Sem.run_bind,run_underlying underlying158,Result.andThen_ok,MapKept.run_getObj_map hb,Mx,hj,Option.map_none];exact MapKept.run_setObj_map _ hb
 ·show (w.heap.setIfInBounds B _)[B]?=_;rw[Array.getElem?_setIfInBounds_self_of_lt hlt]
 ·rw[Array.toList_push,List.map_append,List.map_append,he];rfl
 ·show (w.heap.setIfInBounds B _)[k]?=_;rw[Array.getElem?_setIfInBounds_ne (fun e=>hne (by rw[e]))]
theorem Cw.of_block{w w':World}{B:Nat}{m:List HE}(h:Cw w B m)(hb:w'.heap[B]?=w.heap[B]?):Cw w' B m:=by
 obtain⟨es,c,h1,h2⟩:=h;exact⟨es,c,hb.trans h1,h2⟩
theorem Cw.lt{w:World}{B:Nat}{m:List HE}(h:Cw w B m):B<w.heap.size:=by
 obtain⟨es,c,hb,he⟩:=h;rcases Nat.lt_or_ge B w.heap.size with h|h
 ·exact h
 ·rw[Array.getElem?_eq_none h] at hb;cases hb
theorem Cw.below{w w':World}{B:Nat}{m:List HE}(h:Cw w B m)(hb:Bl w w'):Cw w' B m:=h.of_block (hb.block B h.lt)
theorem Cw.new(w:World):Cw (w.alloc (.map #[] 0)) w.heap.size []:=⟨#[],0,heap_alloc_new w _,rfl⟩
theorem TL(x:Int)(w:World):Calls prog 223 #[.int .i64 x] w fun e w'=>e=.returned (.bool false)/\w'=w:=by
 have d:(x != x)=false:=by simp
 go_enter func223,ntmps223
 go_wp2_with fail
 go_ret;exact⟨by first|rfl|simp,rfl⟩
theorem QE(x:Int)(w:World):Calls prog 234 #[.int .i64 x] w fun e w'=>e=.returned (.bool false)/\w'=w:=by
 have d:(x != x)=false:=by simp
 go_enter func234,ntmps234
 go_wp2_with fail
 go_ret;exact⟨by first|rfl|simp,rfl⟩
def C6 (xs:List Int) (e:Int):Nat:=xs.countP (fun x=>decide (x<e))
def CK (xs:List Int):Prop:=xs.Pairwise (fun a b=>a<b)
theorem MV{xs:List Int}(h:CK xs){i j:Nat}(hij:i<j)(hj:j<xs.length):AQ Ae xs i<AQ Ae xs j:=by
 unfold AQ;rw[List.getD_eq_getElem?_getD,List.getD_eq_getElem?_getD,List.getElem?_eq_getElem hj,List.getElem?_eq_getElem (by omega)];exact List.pairwise_iff_getElem.1 h i j (by omega) hj hij
theorem Yc{xs:List Int}(h:CK xs){e:Int}{r:Nat}(hr:r<=xs.length)(h1:∀t,t<r->AQ Ae xs t<e)(h2:∀t,r<=t->t<xs.length->¬AQ Ae xs t<e):C6 xs e=r:=by
 unfold C6;have e1:xs=xs.take r++xs.drop r:=(List.take_append_drop r xs).symm;have at1:∀t (ht:t<xs.length),xs[t]=AQ Ae xs t:=fun t ht=>by
  unfold AQ;rw[List.getD_eq_getElem?_getD,List.getElem?_eq_getElem ht];rfl
 have c1:(xs.take r).countP (fun x=>decide (x<e))=r:=by
  have:(xs.take r).countP (fun x=>decide (x<e))=(xs.take r).length:=by
   rw[List.countP_eq_length];intro x hx;obtain⟨t,ht,rfl⟩:=List.getElem_of_mem hx;rw[List.length_take] at ht;rw[List.getElem_take,at1 t (by omega)];exact decide_eq_true (h1 t (by omega))
  rw[this,List.length_take];omega
 have c2:(xs.drop r).countP (fun x=>decide (x<e))=0:=by
  rw[List.countP_eq_zero];intro x hx;obtain⟨t,ht,rfl⟩:=List.getElem_of_mem hx;rw[List.length_drop] at ht;rw[List.getElem_drop,at1 (r+t) (by omega)];have:=h2 (r+t) (by omega) (by omega);simpa using this
 rw[e1,List.countP_append,c1,c2];rfl
def DL (xs:List Int) (e:Int):Bool:=decide (C6 xs e<xs.length/\AQ Ae xs (C6 xs e)=e)
theorem KL(a:Option Addr)(c b:Nat)(xs:List Int)(e0:Int)(w:World)(hn:xs.length<=100000)(hs:CK xs)(h:A8 Ae w b (.slice a xs.length c) xs):Calls prog 181 #[.slice a xs.length c,.int .i64 e0] w fun e w'=>e=.returned (.tuple #[.int .i64 (C6 xs e0:Nat),.bool (DL xs e0)])/\Below w.heap.size w w'/\C6 xs e0<=xs.length:=by
 have HC:Hid (∀t,t<xs.length->∃g,a=some ⟨g,0,none⟩/\∀wX,Below w.heap.size w wX->g<wX.heap.size/\wX.cell? ⟨g,t,none⟩=some (.int .i64 (AQ Ae xs t))):=fun t ht=>by
  obtain⟨a',c',e,hf⟩:=h.form;obtain⟨g,N,f,e2,_⟩:=hf (by omega);simp only[Value.slice.injEq,true_and] at e;obtain⟨rfl,rfl⟩:=e;subst e2;exact⟨g,rfl,fun wX hX=>Ch (h.below hX) t ht⟩
 have HS:Hid (CK xs):=hs
 have hless:=fun (x y:Int) (w:World) (b:Bool) (hb:decide (x<y)=b)=>(show Calls prog 222 #[.int .i64 x,.int .i64 y] w fun e w'=>e=.returned (.bool b)/\w'=w from by
  have hq:=QE x
  subst hb
  go_enter func222,ntmps222
  go_wp2_with (go_at_call 234;refine(hq _).mono ?_;rintro e w1 ⟨rfl,hw1⟩;obtain rfl:=hw1.symm)
  go_ret
  exact⟨by first|rfl|simp,rfl⟩)
 have HL:Hid _:=hless;clear h hs hless;go_enter func181,ntmps181
 go_wp2_with fail
 go_loopw [7,8] (fun s5 s6 wr=>∃(lo hi:Nat),s5=.int .i64 lo/\s6=.int .i64 hi/\lo<=hi/\hi<=xs.length/\Hid ((∀t,t<lo->AQ Ae xs t<e0)/\(∀t,hi<=t->t<xs.length->e0<=AQ Ae xs t))/\Below w.heap.size w wr) (fun s5 s6 _=>(intOf s6).toNat-(intOf s5).toNat)
 case atStart=>exact⟨0,xs.length,rfl,rfl,Nat.zero_le _,Nat.le_refl _,⟨fun t ht=>absurd ht (Nat.not_lt_zero _),fun t h1 h2=>by omega⟩,Below.refl _ _⟩
 case round =>
  obtain⟨lo,hi,rfl,rfl,hlh,hin,I,hb⟩:=hrel;by_cases hlt:lo<hi
  ·obtain⟨g,rfl,hc0⟩:=HC.out ((lo+hi)/2) (by omega);obtain⟨hgl,c0⟩:=hc0 wr hb;(have e2:(((lo+hi)/2:Nat):Int)=((lo:Int)+(hi:Int))/2:=by omega);have HB:Hid (Below w.heap.size w wr):=hb;(obtain⟨X,hX⟩:∃X,AQ Ae xs ((lo+hi)/2)=X:=⟨_,rfl⟩);rw[hX] at c0;have HX:Hid (AQ Ae xs ((lo+hi)/2)=X):=hX;(have L1:(0:Int)<=((lo:Int)+(hi:Int))/2:=by omega);(have L2:((lo:Int)+(hi:Int))/2<(xs.length:Int):=by omega);(have L3:(((lo:Int)+(hi:Int))/2).toNat=(lo+hi)/2:=by omega);clear hb hc0 hX;by_cases hp:X<e0
   ·(have hl:=fun wX=>HL.out X e0 wX true (decide_eq_true hp));have HP:Hid (X<e0):=hp;clear hp;(go_wp2_with (go_at_call 222;refine(hl _).mono ?_;rintro e w' ⟨rfl,hw'⟩;obtain rfl:=hw'.symm));go_roundw;case rel =>
     refine⟨(lo+hi)/2+1,hi,by rw[show ((lo:Int)+(hi:Int))/2+1=(((lo+hi)/2+1:Nat):Int) by omega],rfl,by omega,hin,⟨fun t ht=>?_,I.out.2⟩,HB.out⟩;by_cases et:t=(lo+hi)/2
     ·rw[et,HX.out];exact HP.out
     ·have:=MV HS.out (i:=t) (j:=(lo+hi)/2) (by omega) (by omega);rw[HX.out] at this;have:=HP.out;omega
    case measure=>simp[intOf];omega
   ·(have hl:=fun wX=>HL.out X e0 wX false (decide_eq_false hp));have HP:Hid (e0<=X):=Int.not_lt.1 hp;clear hp;(go_wp2_with (go_at_call 222;refine(hl _).mono ?_;rintro e w' ⟨rfl,hw'⟩;obtain rfl:=hw'.symm));go_roundw;case rel =>
     refine⟨lo,(lo+hi)/2,rfl,by rw[show ((lo:Int)+(hi:Int))/2=(((lo+hi)/2:Nat):Int) by omega],by omega,by omega,⟨I.out.1,fun t ht htn=>?_⟩,HB.out⟩;by_cases et:t=(lo+hi)/2
     ·rw[et,HX.out];exact HP.out
     ·have:=MV HS.out (i:=(lo+hi)/2) (j:=t) (by omega) htn;rw[HX.out] at this;have:=HP.out;omega
    case measure=>simp[intOf];omega
  ·(obtain rfl:hi=lo:=by omega);have HPO:Hid (C6 xs e0=hi):=Yc HS.out hin I.out.1 (fun t h1 h2=>Int.not_lt.2 (I.out.2 t h1 h2));by_cases hl:hi<xs.length
   ·obtain⟨g,rfl,hc0⟩:=HC.out hi hl;obtain⟨hgl,c0⟩:=hc0 wr hb;have dl:decide ((hi:Int)<(xs.length:Int))=true:=decide_eq_true (by omega);(have L1:(0:Int)<=(hi:Int):=by omega);(have L2:(hi:Int)<(xs.length:Int):=by omega);(obtain⟨X,hX⟩:∃X,AQ Ae xs hi=X:=⟨_,rfl⟩);rw[hX] at c0;by_cases hx:X=e0
    ·(have HF:Hid (DL xs e0=true):=A9 <| by unfold DL;rw[HPO.out];exact decide_eq_true ⟨hl,by rw[hX];exact hx⟩);(have dx:(X==e0)=true:=by simpa using hx);clear hX hx hc0;(go_wp2_with fail);(go_ret2);exact⟨by rw[HPO.out,HF.out];rfl,hb,by rw[HPO.out];exact hin⟩
    ·(have HF:Hid (DL xs e0=false):=A9 <| by unfold DL;rw[HPO.out];exact decide_eq_false (fun h=>hx (by rw[<- hX];exact h.2)));(have dx:(X==e0)=false:=by simpa using hx);have hq:=TL X;clear hX hx hc0;(go_wp2_with (go_at_call 223;refine(hq _).mono ?_;rintro e w1 ⟨rfl,hw1⟩;obtain rfl:=hw1.symm));(go_ret2);exact⟨by rw[HPO.out,HF.out];rfl,hb,by rw[HPO.out];exact hin⟩
   ·(have HF:Hid (DL xs e0=false):=A9 <| by unfold DL;rw[HPO.out];exact decide_eq_false (fun h=>hl h.1));have dl:decide ((hi:Int)<(xs.length:Int))=false:=decide_eq_false (by omega);(go_wp2_with fail);(go_ret2);exact⟨by rw[HPO.out,HF.out];rfl,hb,by rw[HPO.out];exact hin⟩
end Go.Proofs.YtnmhkgmmpkjjeaaGreat
