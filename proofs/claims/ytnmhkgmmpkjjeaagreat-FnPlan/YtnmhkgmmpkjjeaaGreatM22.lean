import Derived.Test.YtnmhkgmmpkjjeaaGreatM21
namespace Go.Proofs.YtnmhkgmmpkjjeaaGreat
open ChangeShapes WideShapes ChangeAt RowKit Proofs.Tryz
set_option linter.all false
set_option maxRecDepth 100000
set_option maxHeartbeats 4000000
attribute [local go_sem ↓] wp_at_zero wp_at_succ
theorem TC{w:World}{b g c:Nat}{xs:List BP}(h:A8 BW w b (.slice (some ⟨g,0,none⟩) xs.length c) xs)(i:Nat)(hi:i<xs.length):g<w.heap.size/\w.cell? ⟨g,i*4,none⟩=some (.int .i64 (AQ BW xs i).kind)/\w.cell? ⟨g,i*4+1,none⟩=some (.int .i64 (AQ BW xs i).a)/\w.cell? ⟨g,i*4+2,none⟩=some (.int .i64 (AQ BW xs i).b)/\w.cell? ⟨g,i*4+3,none⟩=some (.int .u64 (AQ BW xs i).word):=by
 obtain⟨a,c',e,h1⟩:=h.form;obtain⟨g',N,f,e2,_,hr,hN,hf⟩:=h1 (by omega);have hN':xs.length*4<=N:=hN;simp only[Value.slice.injEq] at e;obtain⟨e,_,_⟩:=e;rw[e2] at e;simp only[Option.some.injEq,Addr.mk.injEq,and_true] at e;subst e;refine⟨hr.lt,?_,?_,?_,?_⟩
 ·rw[hr.cell (i:=i*4) (by omega)];exact congrArg some (hf i hi 0 (by decide))
 ·rw[hr.cell (i:=i*4+1) (by omega)];exact congrArg some (hf i hi 1 (by decide))
 ·rw[hr.cell (i:=i*4+2) (by omega)];exact congrArg some (hf i hi 2 (by decide))
 ·rw[hr.cell (i:=i*4+3) (by omega)];exact congrArg some (hf i hi 3 (by decide))
structure Vf {α:Type} (E:Dw α) (w:World) (B ga:Nat) (wr:World) (vv:Value) (l:List α):Prop where
 row:∃g c:Nat,vv=.slice (some ⟨g,0,none⟩) l.length c/\A8 E wr B (.slice (some ⟨g,0,none⟩) l.length c) l/\(g=ga\/w.heap.size<=g)
 gr:w.grownBy wr (some ga)
theorem Vf.start{α:Type}{E:Dw α}{w:World}{B ga ca:Nat}{l:List α}(h:A8 E w B (.slice (some ⟨ga,0,none⟩) l.length ca) l):Vf E w B ga w (.slice (some ⟨ga,0,none⟩) l.length ca) l :=
 ⟨⟨ga,ca,rfl,h,.inl rfl⟩,World.grownBy.refl _ _⟩
theorem Vf.push{α:Type}{E:Dw α}{w w1 wn:World}{B ga g g1 c1:Nat}{l:List α}{x:α}{o:Obj}(hgr:w.grownBy w1 (some ga))(hg:g=ga\/w.heap.size<=g)(hown:wn.ownsRow B E.T E.sz (.slice (some ⟨g1,0,none⟩) (l.length+1) c1) (l.length+1) (AK E l++E.enc x))(hgrow:(w1.alloc o).grownBy wn (some g))(hat:some g=some g1\/g1=w1.heap.size+1):Vf E w B ga wn (.slice (some ⟨g1,0,none⟩) (l.length+1) c1) (l++[x]):=by
 have hs1:=hgr.size;have hs2:=hgrow.size;simp at hs2;refine⟨⟨g1,c1,by simp,?_,?_⟩,⟨hgrow.os.trans hgr.os,hgrow.tape.trans hgr.tape,hgrow.output.trans hgr.output,by omega,fun k hk hne=>?_⟩⟩
 ·have:=A8.push rfl hown;rw[List.length_append,List.length_singleton];exact this
 ·rcases hat with e|e
  ·simp only[Option.some.injEq] at e;subst e;exact hg
  ·exact .inr (by omega)
 ·have hkg:some k≠some g:=fun e=>by
   simp only[Option.some.injEq] at e;subst e;rcases hg with e|e
   ·exact hne (by rw[e])
   ·omega
  exact(hgrow.block k (by simp;omega) hkg).trans ((Below.heap_alloc _ _ _ (by omega)).trans (hgr.block k hk hne))
theorem NC(ga ca B:Nat)(xs:List BP)(v2:Option Addr)(c2 b2:Nat)(ys:List BP)(w:World)(hx:xs.length+ys.length<=100000)(hBw:B<=w.heap.size)(h1:A8 BW w B (.slice (some ⟨ga,0,none⟩) xs.length ca) xs)(h2:A8 BW w b2 (.slice v2 ys.length c2) ys)(hne:∀k,Value.ownBlock (.slice v2 ys.length c2)=some k->k≠ga):Calls prog 80 #[.slice (some ⟨ga,0,none⟩) xs.length ca,.slice v2 ys.length c2] w fun e w'=>∃v,e=.returned v/\Vf BW w B ga w' v (xs++ys):=by
 obtain⟨i0,hi,hz0,hz1,hz2⟩:=info_parts Ns;have HG0:Hid (Vf BW w B ga w (.slice (some ⟨ga,0,none⟩) xs.length ca) (xs++ys.take 0)):=A9 <| by rw[List.take_zero,List.append_nil];exact Vf.start h1
 have HC:Hid (∀t,t<ys.length->∃g2,v2=some ⟨g2,0,none⟩/\∀wX,w.grownBy wX (some ga)->g2<wX.heap.size/\wX.cell? ⟨g2,t*4,none⟩=some (.int .i64 (AQ BW ys t).kind)/\wX.cell? ⟨g2,t*4+1,none⟩=some (.int .i64 (AQ BW ys t).a)/\wX.cell? ⟨g2,t*4+2,none⟩=some (.int .i64 (AQ BW ys t).b)/\wX.cell? ⟨g2,t*4+3,none⟩=some (.int .u64 (AQ BW ys t).word)):=A9 <| fun t ht=>by
  obtain⟨a,c',e,hf⟩:=h2.form;obtain⟨g2,N,f,e2,_⟩:=hf (by omega);simp only[Value.slice.injEq,true_and] at e;obtain⟨rfl,rfl⟩:=e;subst e2;refine⟨g2,rfl,fun wX hX=>?_⟩;have hX2:=h2.kept hX (fun k hk e=>hne k hk (by simpa using e));exact TC hX2 t ht
 clear h1 h2 hne;go_enter func80,ntmps80
 go_wp2_with fail
 go_loopw [0,5] (fun vv iv wr=>∃t:Nat,t<=ys.length/\iv=.int .i64 t/\Vf BW w B ga wr vv (xs++ys.take t)) (fun _ iv _=>ys.length-(intOf iv).toNat)
 case atStart=>exact⟨0,Nat.zero_le _,rfl,HG0.out⟩
 case round =>
  obtain⟨t,ht,rfl,hst⟩:=hrel;by_cases hlt:t<ys.length
  ·obtain⟨⟨gv,cv,rfl,hrow,hgv⟩,hgr⟩:=hst;obtain⟨g2,rfl,hcc⟩:=HC.out t hlt;obtain⟨hgl,c0,c1,c2',c3⟩:=hcc wr hgr;(obtain⟨E,hE⟩:∃E,AQ BW ys t=E:=⟨_,rfl⟩);(have HSU:Hid (xs++ys.take (t+1)=(xs++ys.take t)++[E]):=A9 <| by rw[D6 BW ys t hlt,hE,List.append_assoc]);rw[hE] at c0 c1 c2' c3;obtain⟨A,P,Q,R⟩:=E;dsimp only at c0 c1 c2' c3;(obtain⟨l,hl⟩:∃l,xs++ys.take t=l:=⟨_,rfl⟩);(have hll:l.length<=100000:=by rw[<- hl,List.length_append,List.length_take];omega);rw[hl] at hrow HSU ⊢;have HROW:=A5 hrow;have HGR:=A5 hgr;have hsz:=hgr.size;have HGV:=A5 hgv;(have L1:(0:Int)<=(t:Int):=by omega);(have L2:(t:Int)<(ys.length:Int):=by omega);clear hrow hgr hgv hcc hE hl;(go_wp2_with (at_builtin;refine wpList_append_lies _ rfl (.tmp 12) (.tmp 17) 25 rfl B 77 i0 _ 4 32 underlying25 hi hz0 hz1 hz2 rfl (by omega) _ _ _ rfl (World.ownsRow.alloc HROW.out _) ⟨wr.heap.size,0,none⟩ 1 1 [.int .i64 A,.int .i64 P,.int .i64 Q,.int .u64 R] rfl rfl ?c1 ?c2 (by omega) ?c3 ?c4 ?c5 (wr.heap.size+1) ?c6 ?_));(case c1=>exact World.news_of_block (heap_alloc_new wr (.cells #[.int .i64 A,.int .i64 P,.int .i64 Q,.int .u64 R] 77)));(case c2=>intro u hu;simp at hu;rcases hu with rfl|rfl|rfl|rfl<;>rfl);(case c3=>unfold maxLen;omega);(case c4=>omega);(case c5=>simp;omega);(case c6=>simp);intro g1 cap1 wn hown hgrow hat hlt3;have hstn:Vf BW w B ga wn (.slice (some ⟨g1,0,none⟩) (l.length+1) cap1) (l++[⟨A,P,Q,R⟩]):=Vf.push HGR.out HGV.out hown hgrow hat;clear hown hgrow hat hlt3;(go_wp2_with fail);go_roundw;(case rel=>exact⟨t+1,by omega,by go_num,by rw[HSU.out];exact hstn⟩);case measure=>simp[intOf];omega
  ·(have e:t=ys.length:=by omega);subst e;rw[List.take_length] at hst;(go_wp2_with fail);go_ret;exact⟨_,rfl,hst⟩
theorem Hn{mk:Nat->Bool}{m p n:Nat}(hn:p+n<=m)(h:∀k,k<n->mk (p+k)=true)(h2:p+n=m\/mk (p+n)=false):BO mk m p=n:=by
 unfold BO;have e:m-p=n+(m-p-n):=by omega
 rw[e,List.range_add];have:∀(l r:List Nat),(∀x∈l,mk (p+x)=true)->(∀x,r.head?=some x->mk (p+x)=false)->(l++r).takeWhile (fun k=>mk (p+k))=l:=by
  intro l r hl hr;induction l with
  | nil =>
   cases r with
   | nil=>rfl
   | cons y s=>rw[List.nil_append,List.takeWhile_cons_of_neg (p:=fun k=>mk (p+k)) (by rw[hr y rfl];decide)]
  | cons y s ih=>rw[List.cons_append,List.takeWhile_cons_of_pos (p:=fun k=>mk (p+k)) (hl y (List.mem_cons_self ..)),ih (fun x hx=>hl x (List.mem_cons_of_mem _ hx))]
 rw[this _ _ (fun x hx=>h x (List.mem_range.1 hx)),List.length_range];intro x hx;rcases h2 with e2|e2
 ·have e3:m-p-n=0:=by omega
  rw[e3] at hx;simp at hx
 ·by_cases e3:m-p-n=0
  ·rw[e3] at hx;simp at hx
  ·(obtain⟨q,hq⟩:∃q,m-p-n=q+1:=⟨m-p-n-1,by omega⟩);rw[hq,List.range_succ_eq_map,List.map_cons,List.head?_cons] at hx;simp only[Option.some.injEq] at hx;rw[<- hx];exact e2
def Ca (mk:Nat->Bool) (t:Nat):List BP:=(Br mk 4096 t).map fun r=>⟨3,r.1,r.2,0⟩
theorem Jy(mk:Nat->Bool)(t:Nat):Ca mk (t+1)=Ca mk t++(if CO mk t then [⟨3,t,BO mk 4096 t,0⟩] else []):=by
 unfold Ca;rw[GL,List.map_append];split<;>simp
theorem IU(mk:Nat->Bool):∀t,(Ca mk t).length<=t
 | 0=>by simp[Ca,Br]
 | t+1=>by
  rw[Jy,List.length_append];have:=IU mk t;split<;>simp<;>omega
theorem Px(gm:Nat)(mk:Nat->Bool)(w:World)(hgm:gm<w.heap.size)(hm:∀p,p<4096->w.cell? ⟨gm,p,none⟩=some (.bool (mk p))):Calls prog 81 #[.slice (some ⟨gm,0,none⟩) 4096 4096] w fun e w'=>∃v,e=.returned v/\Fd BW w w' v (B8 mk):=by
 obtain⟨i0,hi,hz0,hz1,hz2⟩:=info_parts Ns;have HM:Hid (∀wX,Bl w wX->gm<wX.heap.size/\∀p,p<4096->wX.cell? ⟨gm,p,none⟩=some (.bool (mk p))):=A9 <| fun wX hX=>⟨Nat.lt_of_lt_of_le hgm hX.size,fun p hp=>(hX.cell (p:=⟨gm,p,none⟩) hgm).trans (hm p hp)⟩
 have HE:Hid (Fd BW w (w.alloc (.cells #[] 77)) (.slice (some ⟨w.heap.size,0,none⟩) 0 0) (Ca mk 0)):=⟨⟨w.heap.size,0,rfl,A8.empty BW w w.heap.size (Nat.le_refl _)⟩,AO⟩;have HT:Hid (B8 mk=Ca mk 4096):=rfl;clear hgm hm;go_enter func81,ntmps81
 go_wp2_with fail
 go_loopw [3,4] (fun vv iv wr=>∃t:Nat,t<=4096/\iv=.int .i64 t/\Fd BW w wr vv (Ca mk t)) (fun _ iv _=>4096-(intOf iv).toNat)
 case atStart=>exact⟨0,Nat.zero_le _,rfl,HE.out⟩
 case round =>
  obtain⟨t,ht,rfl,hst⟩:=hrel;by_cases hlt:t<4096
  ·obtain⟨hgl,hcell⟩:=HM.out wr hst.bel;have c0:=hcell t hlt;have HCELL:=A5 hcell;have HSU:=Jy mk t;have hrl:=IU mk t;have HSUH:=A5 HSU;(have L1:(0:Int)<=(t:Int):=by omega);(have L2:(t:Int)<4096:=by omega);clear HSU hcell;cases hmt:mk t
   ·rw[hmt] at c0;(have HEQ:Hid (Ca mk (t+1)=Ca mk t):=A9 <| by rw[HSUH.out];unfold CO;rw[hmt];simp);clear hmt;(go_wp2_with fail);go_roundw;(case rel=>exact⟨t+1,by omega,by go_num,by rw[HEQ.out];exact hst⟩);case measure=>simp[intOf];omega
   ·rw[hmt] at c0;rcases Nat.eq_zero_or_pos t with h0|h0
    ·(have HST1:Hid (CO mk t=true):=A9 <| by unfold CO;rw[hmt,decide_eq_true h0];rfl);(have d0:((t:Int)==0)=true:=by simp[h0]);clear hmt h0;(go_wp2_with fail);(go_loopw [5] (fun iv wr2=>∃n:Nat,iv=.int .i64 n/\t+n<=4096/\Hid (∀k,k<n->mk (t+k)=true)/\wr2=wr) (fun iv _=>4096-(intOf iv).toNat));(case atStart=>exact⟨0,rfl,by omega,fun k hk=>absurd hk (by omega),rfl⟩);case round =>
      obtain⟨n,rfl,hn,hall,rfl⟩:=hrel;by_cases hin:t+n<4096
      ·have ci:=HCELL.out (t+n) hin;(have L5:(0:Int)<=(t:Int)+(n:Int):=by omega);(have L6:(t:Int)+(n:Int)<4096:=by omega);cases hmn:mk (t+n)
       ·rw[hmn] at ci;have HRL:Hid (BO mk 4096 (t)=n):=Hn hn hall.out (.inr hmn);clear hmn;obtain⟨⟨gv,cv,rfl,hrow⟩,hbel⟩:=hst;have hsz:=hbel.size;have HROW:=A5 hrow;have HB:=A5 hbel;(have HEQ:Hid (Ca mk (t+1)=Ca mk (t)++[⟨3,(t:Nat),n,0⟩]):=A9 <| by rw[HSUH.out,if_pos HST1.out,HRL.out]);clear hrow hbel;(go_wp2_with (at_builtin;refine wpList_append_lies _ rfl (.tmp 45) (.tmp 49) 25 rfl w.heap.size 77 i0 _ 4 32 underlying25 hi hz0 hz1 hz2 rfl (by omega) _ _ _ rfl (World.ownsRow.alloc HROW.out _) ⟨_,0,none⟩ 1 1 [.int .i64 3,.int .i64 (t:Int),.int .i64 n,.int .u64 0] rfl rfl ?c1 ?c2 (by omega) ?c3 ?c4 ?c5 _ rfl ?_));(case c1=>exact World.news_of_block (heap_alloc_new _ (.cells #[.int .i64 3,.int .i64 (t:Int),.int .i64 n,.int .u64 0] 77)));(case c2=>intro u hu;simp at hu;rcases hu with rfl|rfl|rfl|rfl<;>rfl);(case c3=>unfold maxLen;omega);(case c4=>omega);(case c5=>simp;omega);intro g1 cap1 wn hown hgrow hat hlt3;have hstn:=Fd.push (x:=(⟨3,(t:Int),n,0⟩:BP)) HB.out HROW.out hown hgrow;clear hown hgrow hat hlt3;(go_wp2_with fail);go_roundw;(case rel=>exact⟨t+1,by omega,by go_num,by rw[HEQ.out];exact hstn⟩);case measure=>simp[intOf];omega
       ·rw[hmn] at ci;have HMN:=A5 hmn;clear hmn;(go_wp2_with fail);go_roundw;case rel =>
         refine⟨n+1,by go_num,by omega,fun k hk=>?_,by first|rfl|trivial⟩;by_cases e:k=n
         ·rw[e];exact HMN.out
         ·exact hall.out k (by omega)
        case measure=>simp[intOf];omega
      ·have HRL:Hid (BO mk 4096 (t)=n):=Hn hn hall.out (.inl (by omega));have L7:decide ((t:Int)+(n:Int)<4096)=false:=decide_eq_false (by omega);obtain⟨⟨gv,cv,rfl,hrow⟩,hbel⟩:=hst;have hsz:=hbel.size;have HROW:=A5 hrow;have HB:=A5 hbel;(have HEQ:Hid (Ca mk (t+1)=Ca mk (t)++[⟨3,(t:Nat),n,0⟩]):=A9 <| by rw[HSUH.out,if_pos HST1.out,HRL.out]);clear hrow hbel;(go_wp2_with (at_builtin;refine wpList_append_lies _ rfl (.tmp 45) (.tmp 49) 25 rfl w.heap.size 77 i0 _ 4 32 underlying25 hi hz0 hz1 hz2 rfl (by omega) _ _ _ rfl (World.ownsRow.alloc HROW.out _) ⟨_,0,none⟩ 1 1 [.int .i64 3,.int .i64 (t:Int),.int .i64 n,.int .u64 0] rfl rfl ?c1 ?c2 (by omega) ?c3 ?c4 ?c5 _ rfl ?_));(case c1=>exact World.news_of_block (heap_alloc_new _ (.cells #[.int .i64 3,.int .i64 (t:Int),.int .i64 n,.int .u64 0] 77)));(case c2=>intro u hu;simp at hu;rcases hu with rfl|rfl|rfl|rfl<;>rfl);(case c3=>unfold maxLen;omega);(case c4=>omega);(case c5=>simp;omega);intro g1 cap1 wn hown hgrow hat hlt3;have hstn:=Fd.push (x:=(⟨3,(t:Int),n,0⟩:BP)) HB.out HROW.out hown hgrow;clear hown hgrow hat hlt3;(go_wp2_with fail);go_roundw;(case rel=>exact⟨t+1,by omega,by go_num,by rw[HEQ.out];exact hstn⟩);case measure=>simp[intOf];omega
    ·(obtain⟨s,rfl⟩:∃s,t=s+1:=⟨t-1,by omega⟩);have c1:=HCELL.out s (by omega);(have e1:IntKind.i64.wrap ((s:Int)+1-1)=(s:Int):=by rw[IntKind.wrap_i64];omega);(have e0:(((s:Int)+1)==0)=false:=by simp;omega);(have L3:(0:Int)<=(s:Int):=by omega);(have L4:(s:Int)<4096:=by omega);cases hms:mk s
     ·rw[hms] at c1;(have HST1:Hid (CO mk (s+1)=true):=A9 <| by unfold CO;rw[hmt,Nat.add_sub_cancel,hms];simp);clear hmt hms;(go_wp2_with fail);(go_loopw [5] (fun iv wr2=>∃n:Nat,iv=.int .i64 n/\s+1+n<=4096/\Hid (∀k,k<n->mk (s+1+k)=true)/\wr2=wr) (fun iv _=>4096-(intOf iv).toNat));(case atStart=>exact⟨0,rfl,by omega,fun k hk=>absurd hk (by omega),rfl⟩);case round =>
       obtain⟨n,rfl,hn,hall,rfl⟩:=hrel;by_cases hin:s+1+n<4096
       ·have ci:=HCELL.out (s+1+n) hin;(have L5:(0:Int)<=((s:Int)+1)+(n:Int):=by omega);(have L6:((s:Int)+1)+(n:Int)<4096:=by omega);cases hmn:mk (s+1+n)
        ·rw[hmn] at ci;have HRL:Hid (BO mk 4096 (s+1)=n):=Hn hn hall.out (.inr hmn);clear hmn;obtain⟨⟨gv,cv,rfl,hrow⟩,hbel⟩:=hst;have hsz:=hbel.size;have HROW:=A5 hrow;have HB:=A5 hbel;(have HEQ:Hid (Ca mk (s+1+1)=Ca mk (s+1)++[⟨3,(s+1:Nat),n,0⟩]):=A9 <| by rw[HSUH.out,if_pos HST1.out,HRL.out]);clear hrow hbel;(go_wp2_with (at_builtin;refine wpList_append_lies _ rfl (.tmp 45) (.tmp 49) 25 rfl w.heap.size 77 i0 _ 4 32 underlying25 hi hz0 hz1 hz2 rfl (by omega) _ _ _ rfl (World.ownsRow.alloc HROW.out _) ⟨_,0,none⟩ 1 1 [.int .i64 3,.int .i64 ((s:Int)+1),.int .i64 n,.int .u64 0] rfl rfl ?c1 ?c2 (by omega) ?c3 ?c4 ?c5 _ rfl ?_));(case c1=>exact World.news_of_block (heap_alloc_new _ (.cells #[.int .i64 3,.int .i64 ((s:Int)+1),.int .i64 n,.int .u64 0] 77)));(case c2=>intro u hu;simp at hu;rcases hu with rfl|rfl|rfl|rfl<;>rfl);(case c3=>unfold maxLen;omega);(case c4=>omega);(case c5=>simp;omega);intro g1 cap1 wn hown hgrow hat hlt3;have hstn:=Fd.push (x:=(⟨3,((s:Int)+1),n,0⟩:BP)) HB.out HROW.out hown hgrow;clear hown hgrow hat hlt3;(go_wp2_with fail);go_roundw;(case rel=>exact⟨s+1+1,by omega,by go_num,by rw[HEQ.out];exact hstn⟩);case measure=>simp[intOf];omega
        ·rw[hmn] at ci;have HMN:=A5 hmn;clear hmn;(go_wp2_with fail);go_roundw;case rel =>
          refine⟨n+1,by go_num,by omega,fun k hk=>?_,by first|rfl|trivial⟩;by_cases e:k=n
          ·rw[e];exact HMN.out
          ·exact hall.out k (by omega)
         case measure=>simp[intOf];omega
       ·have HRL:Hid (BO mk 4096 (s+1)=n):=Hn hn hall.out (.inl (by omega));have L7:decide (((s:Int)+1)+(n:Int)<4096)=false:=decide_eq_false (by omega);obtain⟨⟨gv,cv,rfl,hrow⟩,hbel⟩:=hst;have hsz:=hbel.size;have HROW:=A5 hrow;have HB:=A5 hbel;(have HEQ:Hid (Ca mk (s+1+1)=Ca mk (s+1)++[⟨3,(s+1:Nat),n,0⟩]):=A9 <| by rw[HSUH.out,if_pos HST1.out,HRL.out]);clear hrow hbel;(go_wp2_with (at_builtin;refine wpList_append_lies _ rfl (.tmp 45) (.tmp 49) 25 rfl w.heap.size 77 i0 _ 4 32 underlying25 hi hz0 hz1 hz2 rfl (by omega) _ _ _ rfl (World.ownsRow.alloc HROW.out _) ⟨_,0,none⟩ 1 1 [.int .i64 3,.int .i64 ((s:Int)+1),.int .i64 n,.int .u64 0] rfl rfl ?c1 ?c2 (by omega) ?c3 ?c4 ?c5 _ rfl ?_));(case c1=>exact World.news_of_block (heap_alloc_new _ (.cells #[.int .i64 3,.int .i64 ((s:Int)+1),.int .i64 n,.int .u64 0] 77)));(case c2=>intro u hu;simp at hu;rcases hu with rfl|rfl|rfl|rfl<;>rfl);(case c3=>unfold maxLen;omega);(case c4=>omega);(case c5=>simp;omega);intro g1 cap1 wn hown hgrow hat hlt3;have hstn:=Fd.push (x:=(⟨3,((s:Int)+1),n,0⟩:BP)) HB.out HROW.out hown hgrow;clear hown hgrow hat hlt3;(go_wp2_with fail);go_roundw;(case rel=>exact⟨s+1+1,by omega,by go_num,by rw[HEQ.out];exact hstn⟩);case measure=>simp[intOf];omega
     ·rw[hms] at c1;(have HEQ:Hid (Ca mk (s+1+1)=Ca mk (s+1)):=A9 <| by rw[HSUH.out];unfold CO;rw[Nat.add_sub_cancel,hms];simp);clear hmt hms;(go_wp2_with fail);go_roundw;(case rel=>exact⟨s+1+1,by omega,by go_num,by rw[HEQ.out];exact hst⟩);case measure=>simp[intOf];omega
  ·(have e:t=4096:=by omega);subst e;(go_wp2_with fail);go_ret;exact⟨_,rfl,by rw[HT.out];exact hst⟩
end Go.Proofs.YtnmhkgmmpkjjeaaGreat
