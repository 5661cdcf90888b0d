import Derived.Test.YtnmhkgmmpkjjeaaGreatL27
namespace Go.Proofs.YtnmhkgmmpkjjeaaGreat
open Go.ChangeShapes Go.WideShapes Go.ChangeAt Go.RowKit
set_option linter.unusedVariables false
set_option maxRecDepth 100000
attribute [local go_sem ↓] Go.wp_at_zero Go.wp_at_succ
def CJ:Dc (Nat×Nat):=⟨279,2,fun x=>[.int .i64 x.1,.int .i64 x.2],(0,0),by omega,fun _=>rfl⟩
theorem Ul:(Tryz.prog.info? 279).map (fun i=>(i.zero,i.size,i.bytes))=some (some (.agg #[.int .i64 0,.int .i64 0]),2,16):=by kernel_rfl
theorem N7 {w:World} {B g c n:Nat} {xs:List (Nat×Nat)} (h:A6 CJ w B (.slice (some ⟨g,0,none⟩) n c) xs):B<=g/\xs.length<=c/\c<=maxLen/\∃f,w.rowIs g 279 (c*2) f/\∀i,i<xs.length->f (i*2)=.int .i64 ((AI CJ xs i).1:Nat)/\f (i*2+1)=.int .i64 ((AI CJ xs i).2:Nat):=by
 rcases h.2 with⟨e,_⟩|⟨g',cap',cur,e,hb,hg,h1,h2,h3,h4⟩
 ·cases e
 ·simp only[Value.slice.injEq,Option.some.injEq,Addr.mk.injEq] at e;obtain⟨⟨rfl,_⟩,hn,rfl⟩:=e;have h3':cur.size=c*2:=h3;refine⟨hb,h1,h2,fun i=>cur.getD i (.bool false),⟨cur,hg,h3',fun i hi=>?_⟩,fun i hi=>?_⟩
  ·rw[Array.getElem?_eq_getElem (by rw[h3'];exact hi)];simp[Array.getD_eq_getD_getElem?,Array.getElem?_eq_getElem (show i<cur.size by rw[h3'];exact hi)]
  ·have key:∀j,j<2->cur.getD (i*2+j) (.bool false)=((CJ.enc (AI CJ xs i))[j]?).getD (.bool false):=by
    intro j hj;have hu:=Ee CJ xs i hi j hj;have e0:i*CJ.sz+j=i*2+j:=rfl;(have e1:i*2+j<xs.length*CJ.sz:=by show i*2+j<xs.length*2;omega);rw[e0,<- h4,List.getElem?_take,if_pos e1,Array.getElem?_toList] at hu;simp[Array.getD_eq_getD_getElem?,hu]
   exact⟨key 0 (by decide),key 1 (by decide)⟩
theorem V7 {w:World} {B g c n:Nat} {f:Nat->Value} {ys:List (Nat×Nat)} (hn:n=ys.length) (hb:B<=g) (hr:w.rowIs g 279 (c*2) f) (hc:n<=c) (hm:c<=maxLen) (hf:∀i,i<n->f (i*2)=.int .i64 ((AI CJ ys i).1:Nat)/\f (i*2+1)=.int .i64 ((AI CJ ys i).2:Nat)):A6 CJ w B (.slice (some ⟨g,0,none⟩) n c) ys:=by
 refine A6.of_row (E:=CJ) (N:=c*2) hn.symm hb hr rfl hc hm (fun i hi j hj=>?_);have hj':j<2:=hj;have e0:i*CJ.sz+j=i*2+j:=rfl;rw[e0];rcases(show j=0\/j=1 by omega) with rfl|rfl
 ·exact(hf i hi).1
 ·exact(hf i hi).2
theorem QK (rs:List (Nat×Nat)) (x:Nat×Nat) (i:Nat):AI CJ (rs++[x]) i=if i<rs.length then AI CJ rs i else if i=rs.length then x else (0,0):=by
 unfold AI;simp only[List.getD_eq_getElem?_getD];by_cases h:i<rs.length
 ·rw[if_pos h,List.getElem?_append_left h]
 ·rw[if_neg h,List.getElem?_append_right (by omega)];by_cases h2:i=rs.length
  ·rw[if_pos h2,h2,Nat.sub_self];rfl
  ·rw[if_neg h2,List.getElem?_eq_none (by simp;omega)];rfl
theorem Sw {w:World} {B g c:Nat} {rs:List (Nat×Nat)} {f k:Nat} (h:A6 CJ w B (.slice (some ⟨g,0,none⟩) (rs++[(f,k)]).length c) (rs++[(f,k)])):A6 CJ (w.setCell ⟨g,rs.length*2+1,none⟩ (.int .i64 ((k+1:Nat):Int))) B (.slice (some ⟨g,0,none⟩) (rs++[(f,k+1)]).length c) (rs++[(f,k+1)]):=by
 obtain⟨hB,hc,hm,ff,hr,hf⟩:=N7 h;have hl:(rs++[(f,k+1)]).length=(rs++[(f,k)]).length:=by simp
 have hl2:(rs++[(f,k)]).length=rs.length+1:=by simp
 refine V7 rfl hB (hr.set (rs.length*2+1) _) (by omega) hm (fun i hi=>?_);obtain⟨a0,a1⟩:=hf i (by omega);rw[QK] at a0 a1 ⊢;by_cases h1:i<rs.length
 ·rw[if_pos h1] at a0 a1 ⊢;rw[if_neg (by omega),if_neg (by omega)];exact⟨a0,a1⟩
 ·have h2:i=rs.length:=by omega
  rw[if_neg h1,if_pos h2] at a0 a1 ⊢;rw[if_neg (by omega),if_pos (by omega)];exact⟨a0,rfl⟩
theorem Ta (rs:List (Nat×Nat)) (f k n:Nat):Br (rs++[(f,k)]) n=if f+k=n then rs++[(f,k+1)] else (rs++[(f,k)])++[(n,1)]:=by
 unfold Br;simp
theorem Ub (rs:List (Nat×Nat)) (n:Nat):(Br rs n).length<=rs.length+1:=by
 unfold Br;split
 ·split
  ·rw[List.length_append,List.length_dropLast,List.length_singleton];omega
  ·simp
 ·simp
def CK (ns:List Nat) (i:Nat):List (Nat×Nat):=(ns.take i).foldl Br []
theorem GJ (ns:List Nat) (i:Nat) (hi:i<ns.length):CK ns (i+1)=Br (CK ns i) ns[i]:=by
 unfold CK;rw[List.take_succ_eq_append_getElem hi,List.foldl_append];rfl
theorem Jo (ns:List Nat):∀i,i<=ns.length->(CK ns i).length<=i
 | 0,_=>Nat.le_refl _
 | i+1,h=>by
  rw[GJ ns i (by omega)];have:=Ub (CK ns i) ns[i];have:=Jo ns i (by omega);omega
theorem Lz (ns:List Nat) (b:Nat) (hb:∀x∈ns,x<b):∀i,i<=ns.length->∀r∈CK ns i,r.1<b/\r.2<=i
 | 0,_,r,hr=>by cases hr
 | i+1,h,r,hr=>by
  rw[GJ ns i (by omega)] at hr;have ih:=Lz ns b hb i (by omega);have hx:=hb (ns[i]'(by omega)) (List.getElem_mem _);unfold Br at hr;split at hr
  ·rename_i q hq;have hqm:=List.mem_of_getLast? hq;split at hr
   ·rcases List.mem_append.1 hr with hr|hr
    ·have:=ih r ((List.dropLast_sublist _).subset hr);omega
    ·rw[List.mem_singleton] at hr;subst hr;have:=ih q hqm;dsimp only;omega
   ·rcases List.mem_append.1 hr with hr|hr
    ·have:=ih r hr;omega
    ·rw[List.mem_singleton] at hr;subst hr;dsimp only;omega
  ·rw[List.mem_singleton] at hr;subst hr;dsimp only;omega
theorem Ut {rs:List (Nat×Nat)} (h:rs≠[]):∃r0 f k,rs=r0++[(f,k)]:=⟨rs.dropLast,(rs.getLast h).1,(rs.getLast h).2,(List.dropLast_concat_getLast h).symm⟩
set_option maxHeartbeats 4000000 in
theorem Py (a:Option Addr) (c b:Nat) (ns:List Nat) (w:World) (hn:ns.length<=4096) (hlt:∀x∈ns,x<4096) (h:A6 Ai w b (.slice a (ns.map (fun k=>((k:Nat):Int))).length c) (ns.map (fun k=>((k:Nat):Int)))) : Calls Tryz.prog 190 #[.slice a ns.length c] w fun r w'=>∃a' c',r=.returned (.slice a' (ns.foldl Br []).length c')/\A6 CJ w' w.heap.size (.slice a' (ns.foldl Br []).length c') (ns.foldl Br [])/\Below w.heap.size w w':=by
 obtain⟨iR,hiR,hzR0,hzR1,hzR2⟩:=info_parts Ul;have HC:Hid (∀(i:Nat) (hi:i<ns.length) wX,Below w.heap.size w wX->∃g,a=some ⟨g,0,none⟩/\g<wX.heap.size/\wX.cell? ⟨g,i,none⟩=some (.int .i64 ((ns[i]:Nat):Int))):=fun i hi wX hX=>by
  have hr:=h.below hX;have hl:(ns.map (fun k=>((k:Nat):Int))).length=ns.length:=List.length_map _;obtain⟨g,rfl⟩:∃g,a=some ⟨g,0,none⟩:=by
   obtain⟨a',c',e,h1⟩:=hr.form;obtain⟨g,N,f,e2,_⟩:=h1 (by omega);simp only[Value.slice.injEq] at e;exact⟨g,by rw[e.1,e2]⟩
  obtain⟨h1,h2⟩:=Fn hr i (by omega);refine⟨g,rfl,h1,?_⟩;have e:AI Ai (ns.map (fun k=>((k:Nat):Int))) i=((ns[i]:Nat):Int):=by
   unfold AI;rw[List.getD_eq_getElem?_getD,List.getElem?_map,List.getElem?_eq_getElem hi];rfl
  rw[e] at h2;exact h2
 have HFIN:Hid (CK ns ns.length=ns.foldl Br []):=A3 <| by unfold CK;rw[List.take_length]
 have HBD:Hid (∀i,i<=ns.length->∀r∈CK ns i,r.1<4096/\r.2<=i):=Lz ns 4096 hlt;have HLT:Hid (∀x∈ns,x<4096):=hlt;clear h hlt;go_enter Tryz.func190,Tryz.ntmps190
 go_wp2_with fail
 go_loopw [3,9] (fun v iv wr=>∃i:Nat,i<=ns.length/\iv=.int .i64 i/\(∃a' c',v=.slice a' (CK ns i).length c'/\A6 CJ wr w.heap.size (.slice a' (CK ns i).length c') (CK ns i))/\Below w.heap.size w wr) (fun _ iv _=>ns.length-(intOf iv).toNat)
 case atStart=>exact⟨0,Nat.zero_le _,rfl,⟨none,0,rfl,⟨by simp[AE,CK],.inl ⟨rfl,rfl⟩⟩⟩,Below.refl _ _⟩
 case round =>
  obtain⟨i,hi,rfl,⟨a',c',rfl,hrow⟩,hb⟩:=hrel;by_cases hlt:i<ns.length
  ·obtain⟨g,rfl,hgl,x0⟩:=HC.out i hlt wr hb;have hN:=HLT.out (ns[i]) (List.getElem_mem _);have HS:Hid (CK ns (i+1)=Br (CK ns i) ns[i]):=GJ ns i hlt;generalize ns[i]=N at x0 hN HS;have hrl:=Jo ns i hi;have hbd:=HBD.out i hi;(obtain⟨rs,hrs⟩:∃rs,CK ns i=rs:=⟨_,rfl⟩);rw[hrs] at hrow HS hrl hbd;(have L1:(0:Int)<=(i:Int):=by omega);(have L2:(i:Int)<(ns.length:Int):=by omega);have HB:Hid (Below w.heap.size w wr):=hb;have hsz:=hb.size;rw[hrs];clear hb hrs;by_cases hnil:rs=[]
   ·subst hnil;have HR:Hid (CK ns (i+1)=[]++[(N,1)]):=HS.out;have HROW:Hid (A6 CJ wr w.heap.size (.slice a' 0 c') []):=hrow;have HLN:Hid (([]:List (Nat×Nat)).length=0):=rfl;clear hrow HS hbd;(go_wp2_with fail);refine wp_region_held_drew (S:=fun _=>True) (by kernel_rfl) trivial (fun hHeld=>?_);refine tk 0 ?_;refine tk 1 ?_;refine tk 2 ?_;refine sk 3 ?_;refine sk 4 ?_;refine sk 5 ?_;refine sk 6 ?_;refine sk 7 ?_;refine sk 8 ?_;refine sk 9 ?_;refine sk 10 ?_;refine sk 11 ?_;refine sk 12 ?_;refine sk 13 ?_;refine sk 14 ?_;refine sk 15 ?_;refine tk 16 ?_;refine wpAnyH_done (by kernel_rfl) ?_ _;clear hHeld;(have HNW:Hid (∀j u,[Value.int .i64 (N:Int),.int .i64 1][j]?=some u->(wr.alloc (.cells #[.int .i64 (N:Int),.int .i64 1] 279)).drew.cell? ((⟨wr.heap.size,0,none⟩:Addr).add j)=some u):=fun j u hu=>World.news_of_block (heap_alloc_new wr (.cells #[.int .i64 (N:Int),.int .i64 1] 279)) j u hu);have HOW:Hid (World.ownsRow (wr.alloc (.cells #[.int .i64 (N:Int),.int .i64 1] 279)).drew w.heap.size 279 2 (.slice a' 0 c') 0 (AE CJ [])):=A3 <| by
     have h9:=HROW.out.below (Ao.drew (w:=wr.alloc (.cells #[.int .i64 (N:Int),.int .i64 1] 279)));unfold A6 at h9;rw[HLN.out] at h9;exact h9
    (go_wp2_with (at_builtin;refine wpList_append_lies _ rfl (.tmp 41) (.tmp 44) 251 rfl w.heap.size 279 iR _ 2 16 Tryz.underlying251 hiR hzR0 hzR1 hzR2 rfl (by omega) (.slice a' 0 c') 0 (AE CJ []) rfl HOW.out ⟨wr.heap.size,0,none⟩ 1 1 [.int .i64 (N:Int),.int .i64 1] rfl rfl HNW.out ?c2 (by omega) ?c3 ?c4 ?c5 (wr.heap.size+1) ?c6 ?_));(case c2=>intro u hu;simp at hu;rcases hu with rfl|rfl<;>rfl);(case c3=>unfold maxLen;omega);(case c4=>omega);(case c5=>simp;omega);(case c6=>simp);intro g1 cap1 w2 hown hgrow hat hlt2;(have HL2:Hid (([]++[(N,1)]).length=0+1):=A3 <| by rw[List.length_append,HLN.out];rfl);have HN2:Hid (A6 CJ w2 w.heap.size (.slice (some ⟨g1,0,none⟩) ([]++[(N,1)]).length cap1) ([]++[(N,1)])):=A3 <| by
     unfold A6;rw[HL2.out,C4];exact hown
    have HB2:Hid (Below w.heap.size w w2):=A3 <| by
     refine((Aj.of_below (S:=fun k=>w.heap.size<=k) (HB.out.trans ((Ao.drew (w:=wr.alloc (.cells #[.int .i64 (N:Int),.int .i64 1] 279))).mono hsz))).then (Aj.of_grown (S:=fun k=>(Value.slice a' 0 c').ownBlock=some k) hgrow (fun k e=>e)) (fun k hk e=>?_)).below (fun k hk hh=>by omega);exact(HROW.out.own k e).1
    clear hown hgrow hat hlt2 HNW HOW;(go_wp2_with fail);go_roundw;(case rel=>exact⟨i+1,by omega,by go_num,⟨some ⟨g1,0,none⟩,cap1,by rw[HR.out,HL2.out],by rw[HR.out];exact HN2.out⟩,HB2.out⟩);case measure=>simp[intOf];omega
   ·obtain⟨r0,f,k,rfl⟩:=Ut hnil;obtain⟨g2,rfl⟩:∃g2,a'=some ⟨g2,0,none⟩:=by
     obtain⟨a'',c'',e,h1⟩:=hrow.form;obtain⟨g,N',f',e2,_⟩:=h1 (by simp);simp only[Value.slice.injEq] at e;exact⟨g,by rw[e.1,e2]⟩
    obtain⟨hB,hcc,hmm,ff,hr,hf⟩:=N7 hrow;have hbl:=hbd (f,k) (List.mem_append_right _ (List.mem_singleton.2 rfl));dsimp only at hbl;(have hm1:(r0++[(f,k)]).length=r0.length+1:=by simp);obtain⟨b0,b1⟩:=hf r0.length (by omega);rw[QK,if_neg (by omega),if_pos rfl] at b0 b1;have y0:wr.cell? ⟨g2,r0.length*2,none⟩=some (.int .i64 (f:Nat)):=(hr.cell (by omega)).trans (congrArg some b0);have y1:wr.cell? ⟨g2,r0.length*2+1,none⟩=some (.int .i64 (k:Nat)):=(hr.cell (by omega)).trans (congrArg some b1);have f1:=hr.frozen (r0.length*2+1);have hg2:=hr.lt;(have HROW:Hid (A6 CJ wr w.heap.size (.slice (some ⟨g2,0,none⟩) (r0.length+1) c') (r0++[(f,k)])):=A3 <| by rw[<- hm1];exact hrow);have HMR:Hid (A6 CJ (wr.setCell ⟨g2,r0.length*2+1,none⟩ (.int .i64 ((k+1:Nat):Int))) w.heap.size (.slice (some ⟨g2,0,none⟩) (r0++[(f,k+1)]).length c') (r0++[(f,k+1)])):=Sw hrow;have HGB:Hid (w.heap.size<=g2):=hB;have hPL:=Ta r0 f k N;(obtain⟨m,hm⟩:∃m,r0.length=m:=⟨_,rfl⟩);rw[hm1,hm];rw[hm] at y0 y1 f1 HROW HMR hm1;have HLN:Hid ((r0++[(f,k)]).length=m+1):=hm1;(have W1:IntKind.i64.wrap ((m:Int)+1-1)=(m:Int):=by rw[IntKind.wrap_i64];omega);(have W2:IntKind.i64.wrap ((f:Int)+(k:Int))=(f:Int)+(k:Int):=by rw[IntKind.wrap_i64];omega);(have L3:(0:Int)<=(m:Int):=by omega);(have L4:(m:Int)<(m:Int)+1:=by omega);clear hrow hf hr b0 b1 hbd hcc hmm hB hnil hm;by_cases hfk:f+k=N
    ·(have HR:Hid (CK ns (i+1)=r0++[(f,k+1)]):=A3 <| by rw[HS.out,hPL,if_pos hfk]);(have dq:((f:Int)+(k:Int)==(N:Int))=true:=by simp;omega);clear HS hPL hfk;(go_wp2_with fail);refine wp_region_held_drew (S:=fun wX=>wX.cell? ⟨g2,m*2,none⟩=some (.int .i64 (f:Nat))/\wX.cell? ⟨g2,m*2+1,none⟩=some (.int .i64 (k:Nat))/\g2<wX.heap.size) (by kernel_rfl) ⟨y0,y1,hg2⟩ (fun hHeld=>?_);refine tk 0 ?_;refine tk 1 ?_;refine tk 2 ?_;refine tk 3 ?_;refine tk 4 ?_;refine tk 5 ?_;refine tk 6 ?_;refine tk 7 ?_;refine tk 8 ?_;refine tk 9 ?_;refine tk 10 ?_;refine tk 11 ?_;refine tk 12 ?_;refine tk 13 ?_;refine tk 14 ?_;refine tk 15 ?_;refine tk 16 ?_;refine wpAnyH_done (by kernel_rfl) ?_ _;clear hHeld;(go_wp2_with fail);go_roundw;case rel =>
      have hl3:(r0++[(f,k+1)]).length=m+1:=by
       have:=HLN.out;rw[List.length_append] at this ⊢;exact this
      refine⟨i+1,by omega,by go_num,⟨some ⟨g2,0,none⟩,c',by rw[HR.out,hl3],?_⟩,(HB.out.setCell HGB.out _).drew⟩;rw[HR.out];exact HMR.out
     case measure=>simp[intOf];omega
    ·(have HR:Hid (CK ns (i+1)=(r0++[(f,k)])++[(N,1)]):=A3 <| by rw[HS.out,hPL,if_neg hfk]);(have dq:((f:Int)+(k:Int)==(N:Int))=false:=by simp;omega);clear HS hPL hfk HMR;(go_wp2_with fail);refine wp_region_held_drew (S:=fun wX=>wX.cell? ⟨g2,m*2,none⟩=some (.int .i64 (f:Nat))/\wX.cell? ⟨g2,m*2+1,none⟩=some (.int .i64 (k:Nat))/\g2<wX.heap.size) (by kernel_rfl) ⟨y0,y1,hg2⟩ (fun hHeld=>?_);refine tk 0 ?_;refine tk 1 ?_;refine tk 2 ?_;refine tk 3 ?_;refine tk 4 ?_;refine tk 5 ?_;refine tk 6 ?_;refine tk 7 ?_;refine tk 8 ?_;refine tk 9 ?_;refine tk 10 ?_;refine tk 11 ?_;refine tk 12 ?_;refine tk 13 ?_;refine tk 14 ?_;refine tk 15 ?_;refine tk 16 ?_;refine wpAnyH_done (by kernel_rfl) ?_ _;clear hHeld;(have HNW:Hid (∀j u,[Value.int .i64 (N:Int),.int .i64 1][j]?=some u->(wr.alloc (.cells #[.int .i64 (N:Int),.int .i64 1] 279)).drew.cell? ((⟨wr.heap.size,0,none⟩:Addr).add j)=some u):=fun j u hu=>World.news_of_block (heap_alloc_new wr (.cells #[.int .i64 (N:Int),.int .i64 1] 279)) j u hu);have HOW:Hid (World.ownsRow (wr.alloc (.cells #[.int .i64 (N:Int),.int .i64 1] 279)).drew w.heap.size 279 2 (.slice (some ⟨g2,0,none⟩) (m+1) c') (m+1) (AE CJ (r0++[(f,k)]))):=A3 <| by
      have h9:=HROW.out.below (Ao.drew (w:=wr.alloc (.cells #[.int .i64 (N:Int),.int .i64 1] 279)));unfold A6 at h9;rw[HLN.out] at h9;exact h9
     (go_wp2_with (at_builtin;refine wpList_append_lies _ rfl (.tmp 41) (.tmp 44) 251 rfl w.heap.size 279 iR _ 2 16 Tryz.underlying251 hiR hzR0 hzR1 hzR2 rfl (by omega) (.slice (some ⟨g2,0,none⟩) (m+1) c') (m+1) (AE CJ (r0++[(f,k)])) rfl HOW.out ⟨wr.heap.size,0,none⟩ 1 1 [.int .i64 (N:Int),.int .i64 1] rfl rfl HNW.out ?c2 (by omega) ?c3 ?c4 ?c5 (wr.heap.size+1) ?c6 ?_));(case c2=>intro u hu;simp at hu;rcases hu with rfl|rfl<;>rfl);(case c3=>unfold maxLen;omega);(case c4=>omega);(case c5=>simp;omega);(case c6=>simp);intro g1 cap1 w2 hown hgrow hat hlt2;(have HL2:Hid (((r0++[(f,k)])++[(N,1)]).length=(m+1)+1):=A3 <| by rw[List.length_append,HLN.out];rfl);have HN2:Hid (A6 CJ w2 w.heap.size (.slice (some ⟨g1,0,none⟩) ((r0++[(f,k)])++[(N,1)]).length cap1) ((r0++[(f,k)])++[(N,1)])):=A3 <| by
      unfold A6;rw[HL2.out,C4];exact hown
     have HB2:Hid (Below w.heap.size w w2):=A3 <| by
      refine((Aj.of_below (S:=fun k=>w.heap.size<=k) (HB.out.trans ((Ao.drew (w:=wr.alloc (.cells #[.int .i64 (N:Int),.int .i64 1] 279))).mono hsz))).then (Aj.of_grown (S:=fun k=>(Value.slice (some ⟨g2,0,none⟩) (m+1) c').ownBlock=some k) hgrow (fun k e=>e)) (fun k hk e=>?_)).below (fun k hk hh=>by omega);exact(HROW.out.own k e).1
     clear hown hgrow hat hlt2 HNW HOW;(go_wp2_with fail);go_roundw;(case rel=>exact⟨i+1,by omega,by go_num,⟨some ⟨g1,0,none⟩,cap1,by rw[HR.out,HL2.out],by rw[HR.out];exact HN2.out⟩,HB2.out⟩);case measure=>simp[intOf];omega
  ·(have ei:i=ns.length:=by omega);subst ei;rw[HFIN.out] at hrow ⊢;(go_wp2_with fail);go_ret;exact⟨a',c',rfl,hrow,hb⟩
end Go.Proofs.YtnmhkgmmpkjjeaaGreat
