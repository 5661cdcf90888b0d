import Derived.Test.YtnmhkgmmpkjjeabGreatE14
import Derived.Deep.RegionLaw
import Derived.Lib.SliceRun
namespace Go.Proofs.YtnmhkgmmpkjjeabGreat
open ChangeShapes WideShapes ChangeAt RowKit Proofs.Tryz
set_option linter.all false
set_option maxRecDepth 100000
set_option maxHeartbeats 4000000
attribute [local go_sem ↓] wp_at_zero wp_at_succ
theorem BN{b:Nat}{t:TypeId}{n:Nat}:∀(vs:List Value) (o:Nat) (w:World) (f:Nat->Value),w.rowIs b t n f->(w.setCells b o vs).rowIs b t n (fun j=>if o<=j/\j<o+vs.length then vs.getD (j-o) (.bool false) else f j)
 | [],o,w,f,h=>by
  refine h.congr (fun i hi=>?_);rw[if_neg (by simp only[List.length_nil];omega)]
 | v :: r,o,w,f,h=>by
  rw[World.setCells];refine(BN r (o+1) _ _ (h.set o v)).congr (fun i hi=>?_);by_cases h1:o+1<=i/\i<o+1+r.length
  ·rw[if_pos h1,if_pos (by simp;omega)];(obtain⟨d,hd⟩:∃d,i-o=d+1:=⟨i-o-1,by omega⟩);rw[hd,show i-(o+1)=d by omega];simp
  ·rw[if_neg h1];by_cases h2:i=o
   ·rw[if_pos h2,if_pos (by simp;omega),h2];simp
   ·rw[if_neg h2,if_neg (by simp;omega)]
theorem BO(b:Nat):∀(vs:List Value) (o:Nat) (w:World),w.grownBy (w.setCells b o vs) (some b)
 | [],o,w=>⟨rfl,rfl,rfl,Nat.le_refl _,fun _ _ _=>rfl⟩
 | v :: r,o,w=>by
  rw[World.setCells];have h:=BO b r (o+1) (w.setCell ⟨b,o,none⟩ v);refine⟨h.os,h.tape,h.output,by have:=h.size;simpa using this,fun k hk hn=>?_⟩;rw[h.block k (by simpa using hk) hn];exact Below.heap_setCell _ _ _ _ (fun e=>hn (by simpa using e))
theorem EK{a b c:World}{row:Option Nat}(h:a.grownBy b row)(k:b.grownBy c row):a.grownBy c row :=
 ⟨k.os.trans h.os,k.tape.trans h.tape,k.output.trans h.output,Nat.le_trans h.size k.size,fun i hi hn=>(k.block i (Nat.lt_of_lt_of_le hi h.size) hn).trans (h.block i hi hn)⟩
theorem Eb{P:Program}(w:World)(t e ty:TypeId)(z:Value)(zs:List Value)(ht:P.underlying t=some (.slice e))(hv:∀w,(zeroValue e).run P w=.ok z w)(hz:(Builtin.zeroCells z.cells 1).toList=zs)(h1:∀v∈zs,v.oneCell'=true)(b o c:Nat)(hc:∀j,j<zs.length->(w.cell? ⟨b,o+j,none⟩).isSome=true)(hf:∀j,j<zs.length->w.frozen? ⟨b,o+j,none⟩=false):(Builtin.clear_ #[t] ty #[.slice (some ⟨b,o,none⟩) 1 c]).run P w=.ok (.tuple #[]) (w.setCells b o zs):=by
 have hst:=run_storeCells_cells (P:=P) b o zs 0 w (by simpa using hc) (by simpa using hf) h1;simp only[Nat.add_zero] at hst;simp[Builtin.clear_,run_underlying ht,hv,hz,hst]
theorem KU{α:Type}(E:DL α)(xs:List α)(k i:Nat)(hk:k<xs.length)(hi:i<xs.length-1):A8 E (xs.take k++xs.drop (k+1)) i=A8 E xs (if i<k then i else i+1):=by
 unfold A8;simp only[List.getD_eq_getElem?_getD];by_cases h:i<k
 ·rw[if_pos h,List.getElem?_append_left (by rw[List.length_take];omega),List.getElem?_take,if_pos h]
 ·rw[if_neg h,List.getElem?_append_right (by rw[List.length_take];omega),List.getElem?_drop,List.length_take,show k+1+(i-min k xs.length)=i+1 by omega]
theorem Dp{α:Type}(xs:List α)(k:Nat)(hk:k<xs.length):(xs.take k++xs.drop (k+1)).length=xs.length-1:=by
 rw[List.length_append,List.length_take,List.length_drop];omega
theorem Ni(ys:List Am):∀u∈AF At ys,u.oneCell'=true:=by
 intro u hu;unfold AF at hu;rw[List.mem_flatMap] at hu;obtain⟨x,_,hx⟩:=hu;have hx':u∈[.int .i64 x.page,.int .i64 x.size,.bool x.doom,.int .i64 x.out,.int .i64 x.perm]:=hx;simp only[List.mem_cons,List.not_mem_nil,or_false] at hx';rcases hx' with rfl|rfl|rfl|rfl|rfl<;>rfl
theorem ND(w:World):(zeroValue 156).run prog w=.ok (.agg #[.int .i64 0,.int .i64 0,.bool false,.int .i64 0,.int .i64 0]) w:=by
 obtain⟨iE,hiE,hz0,hz1,hz2⟩:=info_parts Hx;simp[zeroValue,typeInfo,hiE,hz0]
set_option maxRecDepth 100000 in
theorem Le(g cap k B n1:Nat)(xs:List Am)(w:World)(hn1:xs.length=n1+1)(hk:k<n1+1)(hn:n1+1<=256)(hv:A6 At w B (.slice (some ⟨g,0,none⟩) xs.length cap) xs):Calls prog 162 #[.slice (some ⟨g,0,none⟩) (n1+1) cap,.int .i64 (k:Int),.int .i64 ((k:Int)+1)] w fun r w'=>r=.returned (.slice (some ⟨g,0,none⟩) n1 cap)/\A6 At w' B (.slice (some ⟨g,0,none⟩) n1 cap) (xs.take k++xs.drop (k+1))/\w.grownBy w' (some g):=by
 obtain⟨iE,hiE,hz0,hz1,hz2⟩:=info_parts Hx;obtain⟨hB,hnc0,hmx,f,hr,hf⟩:B<=g/\xs.length<=cap/\cap<=maxLen/\∃f,w.rowIs g 156 (cap*5) f/\∀i,i<xs.length->∀j,j<5->f (i*5+j)=AL At xs i j:=by
  rcases hv.2 with⟨e,_⟩|⟨g',cap',cur,e,hb,hg,h1,h2,h3,h4⟩
  ·cases e
  ·simp only[Value.slice.injEq,Option.some.injEq,Addr.mk.injEq] at e;obtain⟨⟨rfl,_⟩,_,rfl⟩:=e;refine⟨hb,h1,h2,fun i=>cur.getD i (.bool false),⟨cur,hg,h3,fun i hi=>?_⟩,fun i hi j hj=>?_⟩
   ·rw[Array.getElem?_eq_getElem (by rw[h3];exact hi)];simp[Array.getD_eq_getD_getElem?,Array.getElem?_eq_getElem (show i<cur.size by rw[h3];exact hi)]
   ·have hu:=CS At xs i hi j hj;(have hlt:i*5+j<xs.length*5:=by omega);have ht:cur.toList.take (xs.length*5)=AF At xs:=h4;have hu':(AF At xs)[i*5+j]?=(At.enc (A8 At xs i))[j]?:=hu;rw[<- ht,List.getElem?_take,if_pos hlt] at hu';simp only[Array.getElem?_toList] at hu';simp[Array.getD_eq_getD_getElem?,hu',AL]
 have hnc:n1+1<=cap:=by omega
 obtain⟨news,hnews⟩:∃news,news=AF At (xs.drop (k+1)):=⟨_,rfl⟩
 have hnl:news.length=(n1+1-(k+1))*5:=by
  rw[hnews,C7,List.length_drop,hn1];rfl
 have hone:∀u∈news,u.oneCell'=true:=by rw[hnews];exact Ni _
 have hnat:∀q j,q<n1-k->j<5->news.getD (q*5+j) (.bool false)=AL At xs (k+1+q) j:=by
  intro q j hq hj;have h1:=CS At (xs.drop (k+1)) q (by rw[List.length_drop];omega) j hj;have h2:A8 At (xs.drop (k+1)) q=A8 At xs (k+1+q):=by
   unfold A8;simp only[List.getD_eq_getElem?_getD,List.getElem?_drop]
  have h1':news[q*5+j]?=(At.enc (A8 At xs (k+1+q)))[j]?:=by rw[hnews,<- h2];exact h1
  rw[List.getD_eq_getElem?_getD,h1'];rfl
 obtain⟨AD,hAD⟩:∃AD:Addr,(if cap=k+1 then some (⟨g,0,none⟩:Addr) else some ⟨g,(k+1)*5,none⟩)=some AD:=by
  by_cases h:cap=k+1
  ·exact⟨_,if_pos h⟩
  ·exact⟨_,if_neg h⟩
 have hADF:0<n1-k->AD=⟨g,(k+1)*5,none⟩:=fun h=>by
  rw[if_neg (by omega)] at hAD;simpa using hAD.symm
 have hc1:∀j u,news[j]?=some u->w.cell? (AD.add j)=some u:=by
  intro j u hu;have hj:j<news.length:=(List.getElem?_eq_some_iff.1 hu).1;rw[hADF (by omega)];have e:j=j/5*5+j%5:=by omega
  have h1:=hnat (j/5) (j%5) (by omega) (by omega);rw[<- e,List.getD_eq_getElem?_getD,hu] at h1;have h2:=hr.cell (i:=(k+1)*5+j) (by omega);have h3:=hf (k+1+j/5) (by omega) (j%5) (by omega);rw[show (k+1+j/5)*5+j%5=(k+1)*5+j by omega] at h3;rw[h3,<- h1] at h2;rw[add_plain];exact h2
 have hc2:∀j,j<news.length->(w.cell? ⟨g,0+k*5+j,none⟩).isSome=true/\w.frozen? ⟨g,0+k*5+j,none⟩=false:=fun j hj =>
  ⟨by rw[hr.cell (i:=0+k*5+j) (by omega)];rfl,hr.frozen _⟩
 have HC1:Hid _:=hc1;have HC2:Hid _:=hc2;have HNAT:Hid _:=hnat;have a1:(0:Int)<=(k:Int):=by omega
 have a2:(k:Int)<=(k:Int)+1:=by omega
 have a3:(k:Int)+1<=(n1:Int)+1:=by omega
 have a4:(n1:Int)+1<=(cap:Int):=by omega
 have a5:((k:Int)==(k:Int)+1)=false:=by simp only[beq_eq_false_iff_ne];omega
 have a6:(0:Int)<=(k:Int)+1:=by omega
 have b1:k<=cap:=by omega
 have b2:k+1<=n1+1:=by omega
 have b3:k<=n1:=by omega
 have HF:Hid _:=hf;have HR:Hid (w.rowIs g 156 (cap*5) f):=hr;have HN1:Hid (xs.length=n1+1):=hn1;have HADF:Hid _:=hADF;clear hv hf hr hnews hnat hc1 hc2 hn1 hADF hnc0;go_enter func162,ntmps162
 go_upto_region 5 with fail
 refine wp_region_held_drew (S:=fun _=>True) (by kernel_rfl) (trivial) (fun hHeld=>?_);refine tk 0 ?_;refine tk 1 ?_;refine tk 2 ?_;refine tk 3 ?_;refine tk 4 ?_;refine tk 5 ?_;refine wpAnyH_ready (rs:=[6]) (by kernel_rfl) (by simp) ?_;refine AllReadyH.cons rfl (fun K hK=>?_) AllReadyH.nil;refine step_append_room rfl (.tmp 22) (.tmp 25) 149 rfl 156 iE 5 underlying149 hiE hz1 g 0 k cap rfl AD _ _ news rfl (by rw[hnl];first|rfl|(simp;done)|omega) HC1.out hone (by omega) HC2.out ?_;refine hK.out _ _ trivial (fun _=>?_);clear hK K;refine tk 7 ?_;refine wpAnyH_done (by kernel_rfl) ?_ _;obtain⟨w1,hw1⟩:∃w1,w1=w.drew.setCells g (0+k*5) news:=⟨_,rfl⟩
 rw[<- hw1];have hr1:w1.rowIs g 156 (cap*5) (fun j=>if 0+k*5<=j/\j<0+k*5+news.length then news.getD (j-(0+k*5)) (.bool false) else f j):=by
  rw[hw1];exact BN news _ w.drew f HR.out.drew
 have hg1:w.grownBy w1 (some g):=by
  rw[hw1];have h:=BO g news (0+k*5) w.drew;exact⟨h.os,h.tape,h.output,h.size,h.block⟩
 have hclr:∀ty,(Builtin.clear_ #[149] ty #[.slice (some ⟨g,n1*5,none⟩) 1 (cap-n1)]).run prog w1=.ok (.tuple #[]) (w1.setCells g (n1*5) [.int .i64 0,.int .i64 0,.bool false,.int .i64 0,.int .i64 0]):=fun ty =>
  Eb w1 149 156 ty (.agg #[.int .i64 0,.int .i64 0,.bool false,.int .i64 0,.int .i64 0]) [.int .i64 0,.int .i64 0,.bool false,.int .i64 0,.int .i64 0] underlying149 ND (by first|kernel_rfl|(simp[Builtin.zeroCells,Value.cells];done)) (by intro v hv;simp only[List.mem_cons,List.not_mem_nil,or_false] at hv;rcases hv with rfl|rfl|rfl|rfl|rfl<;>rfl) g (n1*5) (cap-n1)
   (fun j hj=>by
    have hj':j<5:=hj
    rw[hr1.cell (i:=n1*5+j) (by omega)];rfl) (fun j hj=>hr1.frozen _)
 have c1:(0:Int)<=(n1:Int):=by omega
 have c2:(n1:Int)<=(n1:Int)+1:=by omega
 have c3:¬cap=n1:=by omega
 have HR1:Hid (w1.rowIs g _ _ _):=hr1;have HG1:Hid (w.grownBy w1 (some g)):=hg1;have HNL:Hid (news.length=_):=hnl;clear hr1 hg1 hw1 hnl hAD hone;go_wp2_with fail
 go_ret;refine⟨rfl,?_,EK HG1.out (BO g _ _ w1)⟩;have hl:=Dp xs k (by have:=HN1.out;omega);have hlen:(xs.take k++xs.drop (k+1)).length=n1:=by rw[hl,HN1.out];omega
 refine A6.of_row (N:=cap*5) hlen hB (BN [.int .i64 0,.int .i64 0,.bool false,.int .i64 0,.int .i64 0] (n1*5) w1 _ HR1.out) rfl (by omega) hmx (fun i hi j hj=>?_);have hj':j<5:=hj;have hsz:At.sz=5:=rfl;have hx:AL At (xs.take k++xs.drop (k+1)) i j=AL At xs (if i<k then i else i+1) j:=by
  unfold AL;rw[KU At xs k i (by have:=HN1.out;omega) (by have:=HN1.out;omega)]
 rw[hx,hsz];have hNL:=HNL.out;rw[if_neg (by simp only[List.length_cons,List.length_nil];omega)];by_cases h:i<k
 ·rw[if_pos h,if_neg (by omega)];exact HF.out i (by have:=HN1.out;omega) j hj'
 ·rw[if_neg h,if_pos (by omega),show i*5+j-(0+k*5)=(i-k)*5+j by omega,HNAT.out (i-k) j (by omega) hj',show k+1+(i-k)=i+1 by omega]
theorem Nh(ys:List CI):∀u∈AF As ys,u.oneCell'=true:=by
 intro u hu;unfold AF at hu;rw[List.mem_flatMap] at hu;obtain⟨x,_,hx⟩:=hu;have hx':u∈[.int .i64 x.page,.int .i64 (16*Ab x.level),.bool x.doom,.int .i64 x.level,.int .i64 x.table]:=hx;simp only[List.mem_cons,List.not_mem_nil,or_false] at hx';rcases hx' with rfl|rfl|rfl|rfl|rfl<;>rfl
theorem NG(w:World):(zeroValue 158).run prog w=.ok (.agg #[.int .i64 0,.int .i64 0,.bool false,.int .i64 0,.int .i64 0]) w:=by
 obtain⟨iE,hiE,hz0,hz1,hz2⟩:=info_parts IM;simp[zeroValue,typeInfo,hiE,hz0]
set_option maxRecDepth 100000 in
theorem Lo(g cap k B n1:Nat)(xs:List CI)(w:World)(hn1:xs.length=n1+1)(hk:k<n1+1)(hn:n1+1<=256)(hv:A6 As w B (.slice (some ⟨g,0,none⟩) xs.length cap) xs):Calls prog 163 #[.slice (some ⟨g,0,none⟩) (n1+1) cap,.int .i64 (k:Int),.int .i64 ((k:Int)+1)] w fun r w'=>r=.returned (.slice (some ⟨g,0,none⟩) n1 cap)/\A6 As w' B (.slice (some ⟨g,0,none⟩) n1 cap) (xs.take k++xs.drop (k+1))/\w.grownBy w' (some g):=by
 obtain⟨iE,hiE,hz0,hz1,hz2⟩:=info_parts IM;obtain⟨hB,hnc0,hmx,f,hr,hf⟩:B<=g/\xs.length<=cap/\cap<=maxLen/\∃f,w.rowIs g 158 (cap*5) f/\∀i,i<xs.length->∀j,j<5->f (i*5+j)=AL As xs i j:=by
  rcases hv.2 with⟨e,_⟩|⟨g',cap',cur,e,hb,hg,h1,h2,h3,h4⟩
  ·cases e
  ·simp only[Value.slice.injEq,Option.some.injEq,Addr.mk.injEq] at e;obtain⟨⟨rfl,_⟩,_,rfl⟩:=e;refine⟨hb,h1,h2,fun i=>cur.getD i (.bool false),⟨cur,hg,h3,fun i hi=>?_⟩,fun i hi j hj=>?_⟩
   ·rw[Array.getElem?_eq_getElem (by rw[h3];exact hi)];simp[Array.getD_eq_getD_getElem?,Array.getElem?_eq_getElem (show i<cur.size by rw[h3];exact hi)]
   ·have hu:=CS As xs i hi j hj;(have hlt:i*5+j<xs.length*5:=by omega);have ht:cur.toList.take (xs.length*5)=AF As xs:=h4;have hu':(AF As xs)[i*5+j]?=(As.enc (A8 As xs i))[j]?:=hu;rw[<- ht,List.getElem?_take,if_pos hlt] at hu';simp only[Array.getElem?_toList] at hu';simp[Array.getD_eq_getD_getElem?,hu',AL]
 have hnc:n1+1<=cap:=by omega
 obtain⟨news,hnews⟩:∃news,news=AF As (xs.drop (k+1)):=⟨_,rfl⟩
 have hnl:news.length=(n1+1-(k+1))*5:=by
  rw[hnews,C7,List.length_drop,hn1];rfl
 have hone:∀u∈news,u.oneCell'=true:=by rw[hnews];exact Nh _
 have hnat:∀q j,q<n1-k->j<5->news.getD (q*5+j) (.bool false)=AL As xs (k+1+q) j:=by
  intro q j hq hj;have h1:=CS As (xs.drop (k+1)) q (by rw[List.length_drop];omega) j hj;have h2:A8 As (xs.drop (k+1)) q=A8 As xs (k+1+q):=by
   unfold A8;simp only[List.getD_eq_getElem?_getD,List.getElem?_drop]
  have h1':news[q*5+j]?=(As.enc (A8 As xs (k+1+q)))[j]?:=by rw[hnews,<- h2];exact h1
  rw[List.getD_eq_getElem?_getD,h1'];rfl
 obtain⟨AD,hAD⟩:∃AD:Addr,(if cap=k+1 then some (⟨g,0,none⟩:Addr) else some ⟨g,(k+1)*5,none⟩)=some AD:=by
  by_cases h:cap=k+1
  ·exact⟨_,if_pos h⟩
  ·exact⟨_,if_neg h⟩
 have hADF:0<n1-k->AD=⟨g,(k+1)*5,none⟩:=fun h=>by
  rw[if_neg (by omega)] at hAD;simpa using hAD.symm
 have hc1:∀j u,news[j]?=some u->w.cell? (AD.add j)=some u:=by
  intro j u hu;have hj:j<news.length:=(List.getElem?_eq_some_iff.1 hu).1;rw[hADF (by omega)];have e:j=j/5*5+j%5:=by omega
  have h1:=hnat (j/5) (j%5) (by omega) (by omega);rw[<- e,List.getD_eq_getElem?_getD,hu] at h1;have h2:=hr.cell (i:=(k+1)*5+j) (by omega);have h3:=hf (k+1+j/5) (by omega) (j%5) (by omega);rw[show (k+1+j/5)*5+j%5=(k+1)*5+j by omega] at h3;rw[h3,<- h1] at h2;rw[add_plain];exact h2
 have hc2:∀j,j<news.length->(w.cell? ⟨g,0+k*5+j,none⟩).isSome=true/\w.frozen? ⟨g,0+k*5+j,none⟩=false:=fun j hj =>
  ⟨by rw[hr.cell (i:=0+k*5+j) (by omega)];rfl,hr.frozen _⟩
 have HC1:Hid _:=hc1;have HC2:Hid _:=hc2;have HNAT:Hid _:=hnat;have a1:(0:Int)<=(k:Int):=by omega
 have a2:(k:Int)<=(k:Int)+1:=by omega
 have a3:(k:Int)+1<=(n1:Int)+1:=by omega
 have a4:(n1:Int)+1<=(cap:Int):=by omega
 have a5:((k:Int)==(k:Int)+1)=false:=by simp only[beq_eq_false_iff_ne];omega
 have a6:(0:Int)<=(k:Int)+1:=by omega
 have b1:k<=cap:=by omega
 have b2:k+1<=n1+1:=by omega
 have b3:k<=n1:=by omega
 have HF:Hid _:=hf;have HR:Hid (w.rowIs g 158 (cap*5) f):=hr;have HN1:Hid (xs.length=n1+1):=hn1;have HADF:Hid _:=hADF;clear hv hf hr hnews hnat hc1 hc2 hn1 hADF hnc0;go_enter func163,ntmps163
 go_upto_region 5 with fail
 refine wp_region_held_drew (S:=fun _=>True) (by kernel_rfl) (trivial) (fun hHeld=>?_);refine tk 0 ?_;refine tk 1 ?_;refine tk 2 ?_;refine tk 3 ?_;refine tk 4 ?_;refine tk 5 ?_;refine wpAnyH_ready (rs:=[6]) (by kernel_rfl) (by simp) ?_;refine AllReadyH.cons rfl (fun K hK=>?_) AllReadyH.nil;refine step_append_room rfl (.tmp 22) (.tmp 25) 150 rfl 158 iE 5 underlying150 hiE hz1 g 0 k cap rfl AD _ _ news rfl (by rw[hnl];first|rfl|(simp;done)|omega) HC1.out hone (by omega) HC2.out ?_;refine hK.out _ _ trivial (fun _=>?_);clear hK K;refine tk 7 ?_;refine wpAnyH_done (by kernel_rfl) ?_ _;obtain⟨w1,hw1⟩:∃w1,w1=w.drew.setCells g (0+k*5) news:=⟨_,rfl⟩
 rw[<- hw1];have hr1:w1.rowIs g 158 (cap*5) (fun j=>if 0+k*5<=j/\j<0+k*5+news.length then news.getD (j-(0+k*5)) (.bool false) else f j):=by
  rw[hw1];exact BN news _ w.drew f HR.out.drew
 have hg1:w.grownBy w1 (some g):=by
  rw[hw1];have h:=BO g news (0+k*5) w.drew;exact⟨h.os,h.tape,h.output,h.size,h.block⟩
 have hclr:∀ty,(Builtin.clear_ #[150] ty #[.slice (some ⟨g,n1*5,none⟩) 1 (cap-n1)]).run prog w1=.ok (.tuple #[]) (w1.setCells g (n1*5) [.int .i64 0,.int .i64 0,.bool false,.int .i64 0,.int .i64 0]):=fun ty =>
  Eb w1 150 158 ty (.agg #[.int .i64 0,.int .i64 0,.bool false,.int .i64 0,.int .i64 0]) [.int .i64 0,.int .i64 0,.bool false,.int .i64 0,.int .i64 0] underlying150 NG (by first|kernel_rfl|(simp[Builtin.zeroCells,Value.cells];done)) (by intro v hv;simp only[List.mem_cons,List.not_mem_nil,or_false] at hv;rcases hv with rfl|rfl|rfl|rfl|rfl<;>rfl) g (n1*5) (cap-n1)
   (fun j hj=>by
    have hj':j<5:=hj
    rw[hr1.cell (i:=n1*5+j) (by omega)];rfl) (fun j hj=>hr1.frozen _)
 have c1:(0:Int)<=(n1:Int):=by omega
 have c2:(n1:Int)<=(n1:Int)+1:=by omega
 have c3:¬cap=n1:=by omega
 have HR1:Hid (w1.rowIs g _ _ _):=hr1;have HG1:Hid (w.grownBy w1 (some g)):=hg1;have HNL:Hid (news.length=_):=hnl;clear hr1 hg1 hw1 hnl hAD hone;go_wp2_with fail
 go_ret;refine⟨rfl,?_,EK HG1.out (BO g _ _ w1)⟩;have hl:=Dp xs k (by have:=HN1.out;omega);have hlen:(xs.take k++xs.drop (k+1)).length=n1:=by rw[hl,HN1.out];omega
 refine A6.of_row (N:=cap*5) hlen hB (BN [.int .i64 0,.int .i64 0,.bool false,.int .i64 0,.int .i64 0] (n1*5) w1 _ HR1.out) rfl (by omega) hmx (fun i hi j hj=>?_);have hj':j<5:=hj;have hsz:As.sz=5:=rfl;have hx:AL As (xs.take k++xs.drop (k+1)) i j=AL As xs (if i<k then i else i+1) j:=by
  unfold AL;rw[KU As xs k i (by have:=HN1.out;omega) (by have:=HN1.out;omega)]
 rw[hx,hsz];have hNL:=HNL.out;rw[if_neg (by simp only[List.length_cons,List.length_nil];omega)];by_cases h:i<k
 ·rw[if_pos h,if_neg (by omega)];exact HF.out i (by have:=HN1.out;omega) j hj'
 ·rw[if_neg h,if_pos (by omega),show i*5+j-(0+k*5)=(i-k)*5+j by omega,HNAT.out (i-k) j (by omega) hj',show k+1+(i-k)=i+1 by omega]
theorem Mg(a:Option Addr)(c B:Nat)(xs:List Am)(i:Int)(w:World)(hn:xs.length<=256)(hv:A6 At w B (.slice a xs.length c) xs):Calls prog 157 #[.slice a xs.length c,.int .i64 i] w fun r w'=>r=.returned (.slice a (AI At true i xs xs.length).length c)/\A6 At w' B (.slice a (AI At true i xs xs.length).length c) (AI At true i xs xs.length)/\w.grownBy w' (Al a):=by
 have hself:w.grownBy w (Al a):=⟨rfl,rfl,rfl,Nat.le_refl _,fun _ _ _=>rfl⟩;by_cases h0:i<0
 ·rw[Cn At true i xs (.inr (.inl h0))];have d0:decide (i<0)=true:=by simpa using h0
  have HV:Hid (A6 _ _ _ _ _):=hv;clear hv;go_enter func157,ntmps157
  go_wp2_with fail
  go_ret;exact⟨rfl,HV.out,hself⟩
 ·have d0:decide (i<0)=false:=by simpa using h0
  by_cases h1:(xs.length:Int)<=i
  ·rw[Cn At true i xs (.inr (.inr h1))];(have d1:decide ((xs.length:Int)<=i)=true:=by simpa using h1);have HV:Hid (A6 _ _ _ _ _):=hv;clear hv;(go_enter func157,ntmps157);(go_wp2_with fail);go_ret;exact⟨rfl,HV.out,hself⟩
  ·(obtain⟨k,rfl⟩:∃k:Nat,i=(k:Int):=⟨i.toNat,by omega⟩);(have hk:k<xs.length:=by omega);(obtain⟨n1,hn1⟩:∃n1,xs.length=n1+1:=⟨xs.length-1,by omega⟩);obtain⟨ga,ca,hae,haf⟩:=hv.form;obtain⟨g,N,f,hag,_⟩:=haf (by omega);have hga:a=some ⟨g,0,none⟩:=by
    simp only[Value.slice.injEq] at hae;exact hae.1.trans hag
   subst hga;have hd:=Le g c k B n1 xs w hn1 (by omega) (by omega) hv;have hl:=Dp xs k hk;rw[H8 At k xs hk,hl,hn1];(have d1:decide ((n1:Int)+1<=(k:Int))=false:=by simp;omega);(have W1:IntKind.i64.wrap ((k:Int)+1)=(k:Int)+1:=by rw[IntKind.wrap_i64];omega);clear hv hae haf hag hl hk h1 h0 hself hn1;(go_enter func157,ntmps157);(go_wp2_with fail);refine hd.mono ?_;rintro r w1 ⟨rfl,hr,hg⟩;have HR:Hid (A6 _ w1 _ _ _):=hr;have HG:Hid (w.grownBy w1 _):=hg;clear hr hg;(go_wp2_with fail);go_ret;exact⟨by simp,HR.out,HG.out⟩
theorem KN(i:Int)(xs:List Am):∀k,AI At true i xs k=AI A7 true i xs k
 | 0=>rfl
 | k+1=>by
  unfold AI;rw[KN i xs k];rfl
theorem Kz(gu b0 B:Nat)(L:Bool)(u:UV)(M:A9)(i:Int)(w:World)(hn:M.tlb.length<=256)(h:UM w gu b0 B L u M):Calls prog 145 #[.pointer (some ⟨gu,0,none⟩),.int .i64 i] w fun r w'=>r=.returned (.tuple #[])/\∃u',AT w w' gu b0 B L u u' ⟨M.mem,M.pend,AI A7 true i M.tlb M.tlb.length,M.wc⟩:=by
 have hw:=Mg u.a4 u.c4 B M.tlb i w hn h.t;rw[KN] at hw;have q:=h.q3;have fz:=h.f3;have hlt:=h.lt;have HUM:Hid (UM w gu b0 B L u M):=h;clear h;go_enter func145,ntmps145
 go_wp2_with fail
 refine hw.mono ?_;rintro r w1 ⟨rfl,hr,hg⟩;have hb:=hg.block gu hlt (fun e=>HUM.out.ap.g4 e.symm);have q1:=(World.cell?_of_block (a:=⟨gu,3,none⟩) hb).trans q;have f1:=(World.frozen?_of_block (a:=⟨gu,3,none⟩) hb).trans fz;have HST:Hid _:=HUM.out.newTlb hg u.a4 u.c4 _ hr (fun k hk=>.inl hk);clear hr hg hb hw;go_wp2_with fail
 refine bodyPost_end (v:=.tuple #[]) (by simp[results,results145,go_sem]) rfl ?_;exact⟨rfl,_,HST.out⟩
theorem Ml(a:Option Addr)(c B:Nat)(xs:List CI)(i:Int)(w:World)(hn:xs.length<=256)(hv:A6 As w B (.slice a xs.length c) xs):Calls prog 158 #[.slice a xs.length c,.int .i64 i] w fun r w'=>r=.returned (.slice a (AI As true i xs xs.length).length c)/\A6 As w' B (.slice a (AI As true i xs xs.length).length c) (AI As true i xs xs.length)/\w.grownBy w' (Al a):=by
 have hself:w.grownBy w (Al a):=⟨rfl,rfl,rfl,Nat.le_refl _,fun _ _ _=>rfl⟩;by_cases h0:i<0
 ·rw[Cn As true i xs (.inr (.inl h0))];have d0:decide (i<0)=true:=by simpa using h0
  have HV:Hid (A6 _ _ _ _ _):=hv;clear hv;go_enter func158,ntmps158
  go_wp2_with fail
  go_ret;exact⟨rfl,HV.out,hself⟩
 ·have d0:decide (i<0)=false:=by simpa using h0
  by_cases h1:(xs.length:Int)<=i
  ·rw[Cn As true i xs (.inr (.inr h1))];(have d1:decide ((xs.length:Int)<=i)=true:=by simpa using h1);have HV:Hid (A6 _ _ _ _ _):=hv;clear hv;(go_enter func158,ntmps158);(go_wp2_with fail);go_ret;exact⟨rfl,HV.out,hself⟩
  ·(obtain⟨k,rfl⟩:∃k:Nat,i=(k:Int):=⟨i.toNat,by omega⟩);(have hk:k<xs.length:=by omega);(obtain⟨n1,hn1⟩:∃n1,xs.length=n1+1:=⟨xs.length-1,by omega⟩);obtain⟨ga,ca,hae,haf⟩:=hv.form;obtain⟨g,N,f,hag,_⟩:=haf (by omega);have hga:a=some ⟨g,0,none⟩:=by
    simp only[Value.slice.injEq] at hae;exact hae.1.trans hag
   subst hga;have hd:=Lo g c k B n1 xs w hn1 (by omega) (by omega) hv;have hl:=Dp xs k hk;rw[H8 As k xs hk,hl,hn1];(have d1:decide ((n1:Int)+1<=(k:Int))=false:=by simp;omega);(have W1:IntKind.i64.wrap ((k:Int)+1)=(k:Int)+1:=by rw[IntKind.wrap_i64];omega);clear hv hae haf hag hl hk h1 h0 hself hn1;(go_enter func158,ntmps158);(go_wp2_with fail);refine hd.mono ?_;rintro r w1 ⟨rfl,hr,hg⟩;have HR:Hid (A6 _ w1 _ _ _):=hr;have HG:Hid (w.grownBy w1 _):=hg;clear hr hg;(go_wp2_with fail);go_ret;exact⟨by simp,HR.out,HG.out⟩
theorem KL(i:Int)(xs:List CI):∀k,AI As true i xs k=AI AJ true i xs k
 | 0=>rfl
 | k+1=>by
  unfold AI;rw[KL i xs k];rfl
theorem Kr(gu b0 B:Nat)(L:Bool)(u:UV)(M:A9)(i:Int)(w:World)(hn:M.wc.length<=256)(h:UM w gu b0 B L u M):Calls prog 146 #[.pointer (some ⟨gu,0,none⟩),.int .i64 i] w fun r w'=>r=.returned (.tuple #[])/\∃u',AT w w' gu b0 B L u u' ⟨M.mem,M.pend,M.tlb,AI AJ true i M.wc M.wc.length⟩:=by
 have hw:=Ml u.a5 u.c5 B M.wc i w hn h.c;rw[KL] at hw;have q:=h.q4;have fz:=h.f4;have hlt:=h.lt;have HUM:Hid (UM w gu b0 B L u M):=h;clear h;go_enter func146,ntmps146
 go_wp2_with fail
 refine hw.mono ?_;rintro r w1 ⟨rfl,hr,hg⟩;have hb:=hg.block gu hlt (fun e=>HUM.out.ap.g5 e.symm);have q1:=(World.cell?_of_block (a:=⟨gu,4,none⟩) hb).trans q;have f1:=(World.frozen?_of_block (a:=⟨gu,4,none⟩) hb).trans fz;have HST:Hid _:=HUM.out.newWc hg u.a5 u.c5 _ hr (fun k hk=>.inl hk);clear hr hg hb hw;go_wp2_with fail
 refine bodyPost_end (v:=.tuple #[]) (by simp[results,results146,go_sem]) rfl ?_;exact⟨rfl,_,HST.out⟩
end Go.Proofs.YtnmhkgmmpkjjeabGreat
