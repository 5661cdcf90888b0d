import Derived.Test.YtnmhkgmmpkjjeaaGreatM42
namespace Go.Proofs.YtnmhkgmmpkjjeaaGreat
open ChangeShapes WideShapes ChangeAt RowKit Proofs.Tryz
set_option linter.all false
set_option maxRecDepth 100000
set_option maxHeartbeats 16000000
attribute [local go_sem ↓] wp_at_zero wp_at_succ
theorem Vt{P:Program}{s:Code}{K:Act->World->Prop}{Q':Exit->Act->World->Prop}{a:Act}{w:World}(n:Nat)(R:Array Value->World->Prop)(first:∀(J K':Act->World->Prop),(∀tm w',tm.size=n->R tm w'->J ⟨tm,[]⟩ w')->(∀a' w',Met J a' w'->K' a' w')->s.wp P (Exit.then K' Q') a w)(rest:∀tm w',tm.size=n->R tm w'->K ⟨tm,[]⟩ w'):s.wp P (Exit.then K Q') a w:=by
 refine wp_cut (fun a' w'=>a'.defers=[]/\a'.tmps.size=n/\R a'.tmps w') ?_ ?_
 ·rintro⟨tm,ds⟩ w' ⟨rfl,hz,hr⟩;exact rest tm w' hz hr
 ·intro J K' hJ hK;exact first J K' (fun tm w' hz hr=>hJ _ _ ⟨rfl,hz,hr⟩) hK
def E8 (a:Int) (x:AE):List AE:=if a=6/\1<x.count then [⟨x.page,1,x.out,x.perm,x.huge⟩] else if a=7 then [x] else []
def DA (a:Int) (z:Nat) (x:AE):AE :=
 if a=0 then ⟨x.page,0,x.out,x.perm,x.huge⟩ else if a=1 then ⟨x.page-40,x.count,x.out,x.perm,x.huge⟩ else if a=2 then ⟨x.page,x.count+60,x.out,x.perm,x.huge⟩
 else if a=3 then ⟨x.page,x.count,65536-x.count+(z:Int)%2,x.perm,x.huge⟩ else if a=4 then ⟨x.page,x.count,x.out,(z:Int)%9,x.huge⟩
 else if a=5 then ⟨4096-x.count+(z:Int)%2,x.count,x.out,x.perm,x.huge⟩
 else if a=6/\1<x.count then ⟨x.page+1,x.count-1,x.out+1,x.perm,if (z:Int)%2=0 then !x.huge else x.huge⟩ else x
def Fm (a t:Int) (z:Nat) (xs:List AE):Nat->List AE
 | 0=>[]
 | k+1=>if (k:Int)=t then (Fm a t z xs k++E8 a (AQ AA xs k))++[DA a z (AQ AA xs k)] else Fm a t z xs k++[AQ AA xs k]
theorem Mo(a:Int)(x:AE):(E8 a x).length<=1:=by
 unfold E8;split
 ·simp
 ·split<;>simp
theorem LE(a t:Int)(z:Nat)(xs:List AE):∀k,(Fm a t z xs k).length<=2*k
 | 0=>by simp[Fm]
 | k+1=>by
  have:=LE a t z xs k;have:=Mo a (AQ AA xs k);unfold Fm;split<;>simp only[List.length_append,List.length_singleton]<;>omega
structure Yk (e:AE):Prop where
 p:-5000<=e.page/\e.page<=10000
 c:-5000<=e.count/\e.count<=10000
 o:-5000000<=e.out/\e.out<=5000000
 r:-100<=e.perm/\e.perm<=100
theorem Yk.wf{e:AE}(h:Yk e):Qe e:=by
 have:=h.p;have:=h.c;have:=h.o;have:=h.r;unfold Qe;omega
theorem Ti.q{e:AE}(h:Ti e):Yk e:=⟨by have:=h.p;omega,by have:=h.c;omega,by have:=h.o;omega,by have:=h.r;omega⟩
theorem Vc(a:Int)(z:Nat){x:AE}(h:Ti x):Yk (DA a z x):=by
 have h1:=h.p;have h2:=h.c;have h3:=h.o;have h4:=h.r;unfold DA;repeat' split
 all_goals exact⟨by (try dsimp only);omega,by (try dsimp only);omega,by (try dsimp only);omega,by (try dsimp only);omega⟩
theorem WW(a:Int){x:AE}(h:Ti x):∀e∈E8 a x,Yk e:=by
 intro e he;have h1:=h.p;have h2:=h.c;have h3:=h.o;have h4:=h.r;unfold E8 at he;split at he
 ·rw[List.mem_singleton.1 he];exact⟨by dsimp only;omega,by dsimp only;omega,by dsimp only;omega,by dsimp only;omega⟩
 ·split at he
  ·rw[List.mem_singleton.1 he];exact h.q
  ·simp at he
theorem Up(a t:Int)(z:Nat){xs:List AE}(h:∀i,i<xs.length->Ti (AQ AA xs i)):∀k,k<=xs.length->∀e∈Fm a t z xs k,Yk e
 | 0,_=>by intro e he;simp[Fm] at he
 | k+1,hk=>by
  intro e he;have ih:=Up a t z h k (by omega);have hx:=h k (by omega);unfold Fm at he;split at he
  ·rcases List.mem_append.1 he with h2|h2
   ·rcases List.mem_append.1 h2 with h3|h3
    ·exact ih e h3
    ·exact WW a hx e h3
   ·rw[List.mem_singleton.1 h2];exact Vc a z hx
  ·rcases List.mem_append.1 he with h2|h2
   ·exact ih e h2
   ·rw[List.mem_singleton.1 h2];exact hx.q
structure SR (w1:World) (B:Nat) (wz:World) (g c:Nat) (L:List AE) (x:AE):Prop where
 row:A8 AA wz w1.heap.size (.slice (some ⟨g,0,none⟩) L.length c) L
 ne:g≠B
 c0:wz.cell? ⟨B,0,none⟩=some (.int .i64 x.page)
 c1:wz.cell? ⟨B,1,none⟩=some (.int .i64 x.count)
 c2:wz.cell? ⟨B,2,none⟩=some (.int .i64 x.out)
 c3:wz.cell? ⟨B,3,none⟩=some (.int .i64 x.perm)
 c4:wz.cell? ⟨B,4,none⟩=some (.bool x.huge)
 fz:∀i,i<5->wz.frozen? ⟨B,i,none⟩=false
 bel:Bl w1 wz
 bB:w1.heap.size<=B
 lt:B<wz.heap.size
theorem SR.all{w1 wz:World}{B g c:Nat}{L:List AE}{x:AE}(h:SR w1 B wz g c L x):B<wz.heap.size/\wz.cell? ⟨B,0,none⟩=some (.int .i64 x.page)/\wz.cell? ⟨B,1,none⟩=some (.int .i64 x.count)/\wz.cell? ⟨B,2,none⟩=some (.int .i64 x.out)/\wz.cell? ⟨B,3,none⟩=some (.int .i64 x.perm)/\wz.cell? ⟨B,4,none⟩=some (.bool x.huge)/\wz.frozen? ⟨B,0,none⟩=false/\wz.frozen? ⟨B,1,none⟩=false/\wz.frozen? ⟨B,2,none⟩=false/\wz.frozen? ⟨B,3,none⟩=false/\wz.frozen? ⟨B,4,none⟩=false :=
 ⟨h.lt,h.c0,h.c1,h.c2,h.c3,h.c4,h.fz 0 (by omega),h.fz 1 (by omega),h.fz 2 (by omega),h.fz 3 (by omega),h.fz 4 (by omega)⟩
theorem LD(g n c:Nat):(Value.slice (some ⟨g,0,none⟩) n c).ownBlock=some g:=rfl
theorem SR.below{w1 wz wy:World}{B g c:Nat}{L:List AE}{x:AE}(h:SR w1 B wz g c L x)(hb:Bl wz wy):SR w1 B wy g c L x :=
 ⟨h.row.below hb,h.ne,(hb.cell (p:=⟨B,0,none⟩) h.lt).trans h.c0,(hb.cell (p:=⟨B,1,none⟩) h.lt).trans h.c1,(hb.cell (p:=⟨B,2,none⟩) h.lt).trans h.c2,(hb.cell (p:=⟨B,3,none⟩) h.lt).trans h.c3,(hb.cell (p:=⟨B,4,none⟩) h.lt).trans h.c4,fun i hi=>(hb.frozen (p:=⟨B,i,none⟩) h.lt).trans (h.fz i hi),Ab h.bel hb,h.bB,Nat.lt_of_lt_of_le h.lt hb.size⟩
theorem Li{w1 wz:World}{B g c j:Nat}{v:Value}{L:List AE}{x:AE}(h:SR w1 B wz g c L x):A8 AA (wz.setCell ⟨B,j,none⟩ v) w1.heap.size (.slice (some ⟨g,0,none⟩) L.length c) L :=
 h.row.touch (S:=fun k=>k=B) ⟨rfl,rfl,rfl,by simp,fun k hk hn=>Below.heap_setCell _ _ _ _ (fun e=>hn e)⟩ (fun k hk e=>h.ne (by rw[LD] at hk;exact(Option.some.inj hk).trans e))
theorem SR.s0{w1 wz:World}{B g c:Nat}{L:List AE}{x:AE}(h:SR w1 B wz g c L x)(v:Int):SR w1 B (wz.setCell ⟨B,0,none⟩ (.int .i64 v)) g c L ⟨v,x.count,x.out,x.perm,x.huge⟩:=by
 obtain⟨g1,g2,g3,g4⟩:=CP (v:=(.int .i64 v)) h.c0;exact⟨Li h,h.ne,g2,(g1 1 (by omega)).trans h.c1,(g1 2 (by omega)).trans h.c2,(g1 3 (by omega)).trans h.c3,(g1 4 (by omega)).trans h.c4,fun i hi=>(g3 i).trans (h.fz i hi),h.bel.setCell h.bB _,h.bB,by simpa using h.lt⟩
theorem SR.s1{w1 wz:World}{B g c:Nat}{L:List AE}{x:AE}(h:SR w1 B wz g c L x)(v:Int):SR w1 B (wz.setCell ⟨B,1,none⟩ (.int .i64 v)) g c L ⟨x.page,v,x.out,x.perm,x.huge⟩:=by
 obtain⟨g1,g2,g3,g4⟩:=CP (v:=(.int .i64 v)) h.c1;exact⟨Li h,h.ne,(g1 0 (by omega)).trans h.c0,g2,(g1 2 (by omega)).trans h.c2,(g1 3 (by omega)).trans h.c3,(g1 4 (by omega)).trans h.c4,fun i hi=>(g3 i).trans (h.fz i hi),h.bel.setCell h.bB _,h.bB,by simpa using h.lt⟩
theorem SR.s2{w1 wz:World}{B g c:Nat}{L:List AE}{x:AE}(h:SR w1 B wz g c L x)(v:Int):SR w1 B (wz.setCell ⟨B,2,none⟩ (.int .i64 v)) g c L ⟨x.page,x.count,v,x.perm,x.huge⟩:=by
 obtain⟨g1,g2,g3,g4⟩:=CP (v:=(.int .i64 v)) h.c2;exact⟨Li h,h.ne,(g1 0 (by omega)).trans h.c0,(g1 1 (by omega)).trans h.c1,g2,(g1 3 (by omega)).trans h.c3,(g1 4 (by omega)).trans h.c4,fun i hi=>(g3 i).trans (h.fz i hi),h.bel.setCell h.bB _,h.bB,by simpa using h.lt⟩
theorem SR.s3{w1 wz:World}{B g c:Nat}{L:List AE}{x:AE}(h:SR w1 B wz g c L x)(v:Int):SR w1 B (wz.setCell ⟨B,3,none⟩ (.int .i64 v)) g c L ⟨x.page,x.count,x.out,v,x.huge⟩:=by
 obtain⟨g1,g2,g3,g4⟩:=CP (v:=(.int .i64 v)) h.c3;exact⟨Li h,h.ne,(g1 0 (by omega)).trans h.c0,(g1 1 (by omega)).trans h.c1,(g1 2 (by omega)).trans h.c2,g2,(g1 4 (by omega)).trans h.c4,fun i hi=>(g3 i).trans (h.fz i hi),h.bel.setCell h.bB _,h.bB,by simpa using h.lt⟩
theorem SR.s4{w1 wz:World}{B g c:Nat}{L:List AE}{x:AE}(h:SR w1 B wz g c L x)(v:Bool):SR w1 B (wz.setCell ⟨B,4,none⟩ (.bool v)) g c L ⟨x.page,x.count,x.out,x.perm,v⟩:=by
 obtain⟨g1,g2,g3,g4⟩:=CP (v:=(.bool v)) h.c4;exact⟨Li h,h.ne,(g1 0 (by omega)).trans h.c0,(g1 1 (by omega)).trans h.c1,(g1 2 (by omega)).trans h.c2,(g1 3 (by omega)).trans h.c3,g2,fun i hi=>(g3 i).trans (h.fz i hi),h.bel.setCell h.bB _,h.bB,by simpa using h.lt⟩
theorem SR.push{w1 wz wn:World}{B g c g1 c1:Nat}{L:List AE}{x y:AE}{o:Obj}(h:SR w1 B wz g c L x)(hown:wn.ownsRow w1.heap.size AA.T AA.sz (.slice (some ⟨g1,0,none⟩) (L.length+1) c1) (L.length+1) (AK AA L++AA.enc y))(hgrow:(wz.alloc o).grownBy wn (Value.slice (some ⟨g,0,none⟩) L.length c).ownBlock)(hat:(Value.slice (some ⟨g,0,none⟩) L.length c).ownBlock=some g1\/g1=wz.heap.size+1):SR w1 B wn g1 c1 (L++[y]) x:=by
 have hB:B<(wz.alloc o).heap.size:=by have:=h.lt;simp;omega
 have hne:some B≠(Value.slice (some ⟨g,0,none⟩) L.length c).ownBlock:=by rw[LD];intro e;exact h.ne (Option.some.inj e).symm
 have hs:=LS.push (E:=AA) h.bel h.row hown hgrow;obtain⟨⟨g2,c2,e2,hr⟩,hb⟩:=hs;have hrow:A8 AA wn w1.heap.size (.slice (some ⟨g1,0,none⟩) (L++[y]).length c1) (L++[y]):=by
  have e3:(L++[y]).length=L.length+1:=by simp
  rw[e3] at hr e2 ⊢;rw[e2];exact hr
 have cl:∀j,wn.cell? ⟨B,j,none⟩=wz.cell? ⟨B,j,none⟩:=fun j=>(hgrow.cell_far ⟨B,j,none⟩ hB hne).trans (AO.cell (p:=⟨B,j,none⟩) h.lt)
 have fl:∀j,wn.frozen? ⟨B,j,none⟩=wz.frozen? ⟨B,j,none⟩:=fun j=>(hgrow.frozen_far ⟨B,j,none⟩ hB hne).trans (AO.frozen (p:=⟨B,j,none⟩) h.lt)
 refine⟨hrow,?_,(cl 0).trans h.c0,(cl 1).trans h.c1,(cl 2).trans h.c2,(cl 3).trans h.c3,(cl 4).trans h.c4,fun i hi=>(fl i).trans (h.fz i hi),hb,h.bB,?_⟩
 ·rcases hat with e|e
  ·rw[LD] at e;have:=h.ne;injection e with e;omega
  ·have:=h.lt;omega
 ·have:=hgrow.size;omega
theorem Sv(a:Option Addr)(cap:Nat)(cs:List Int)(p:Nat)(w:World)(hc:Ia cs)(hp:p<=200000)(hs:On w a cs)(g0 c0 b:Nat)(xs:List AE)(hl0:0<xs.length)(hl1:xs.length<=4096)(hkx:∀i,i<xs.length->Ti (AQ AA xs i))(hx:A8 AA w b (.slice (some ⟨g0,0,none⟩) xs.length c0) xs):Calls prog 137 #[.slice a cs.length cap,.int .i64 (p:Int),.slice (some ⟨g0,0,none⟩) xs.length c0] w fun e w'=>∃g c:Nat,e=.returned (.slice (some ⟨g,0,none⟩) (Fm (Bh cs p 10) (Bh cs (p+1) xs.length) (p+2) xs xs.length).length c)/\A8 AA w' w.heap.size (.slice (some ⟨g,0,none⟩) (Fm (Bh cs p 10) (Bh cs (p+1) xs.length) (p+2) xs xs.length).length c) (Fm (Bh cs p 10) (Bh cs (p+1) xs.length) (p+2) xs xs.length)/\Bl w w':=by
 obtain⟨iA,hiA,hz0,hz1,hz2⟩:=info_parts Pf;have t1:=Ed a cap cs p 10 w hc (by omega) (by omega) hs;have HT2:Hid (∀wX,Bl w wX->Calls prog 64 #[.slice a cs.length cap,.int .i64 ((p:Int)+1),.int .i64 (xs.length:Int)] wX (AM wX (.tuple #[.int .i64 (Bh cs (p+1) xs.length),.int .i64 ((p:Int)+1+1)]))):=A6 fun wX hX=>Ed a cap cs (p+1) xs.length wX hc (by omega) (by omega) (hs.below hX)
 obtain⟨bA0,bA1⟩:=Cf cs p 10 (by omega) hc (by omega);generalize Bh cs p 10=A at *;generalize Bh cs (p+1) xs.length=AT at *;obtain⟨Z,hZ⟩:∃Z,p+2=Z:=⟨_,rfl⟩
 have eZ:(p:Int)+1+1=(Z:Int):=by omega
 rw[hZ];rw[eZ] at HT2
 have HCL:Hid (∀k,k<xs.length->∃x,AQ AA xs k=x/\Ti x/\g0<w.heap.size/\∀wX,Bl w wX->wX.cell? ⟨g0,k*5,none⟩=some (.int .i64 x.page)/\wX.cell? ⟨g0,k*5+1,none⟩=some (.int .i64 x.count)/\wX.cell? ⟨g0,k*5+2,none⟩=some (.int .i64 x.out)/\wX.cell? ⟨g0,k*5+3,none⟩=some (.int .i64 x.perm)/\wX.cell? ⟨g0,k*5+4,none⟩=some (.bool x.huge)):=A6 (fun k hk=>by
  obtain⟨g2,hg2,hcl⟩:=Ho hx
  obtain⟨e2,hg⟩:=hg2 (by omega)
  simp only[Option.some.injEq,Addr.mk.injEq,and_true] at e2
  subst e2
  refine⟨_,rfl,hkx k hk,hg,fun wX hX=>hcl k _ _ _ _ _ hk rfl wX hX⟩)
 have HLEN:Hid (∀k,k<=xs.length->(Fm A AT Z xs k).length<=2*k):=A6 (fun k _=>LE A AT Z xs k);have HTO:Hid (∀k,Fm A AT Z xs (k+1)=(Fm A AT Z xs k++(if (k:Int)=AT then E8 A (AQ AA xs k) else []))++[if (k:Int)=AT then DA A Z (AQ AA xs k) else AQ AA xs k]):=A6 (fun k=>by rw[Fm];split<;>simp);clear hc hs hx hkx;refine KZ 122 func137 rfl (by rfl) (by simp) ?_;intro tm hsz hl;have s0:=hl 0 (by simp);have s1:=hl 1 (by simp);have s2:=hl 2 (by simp);clear hl;simp only[List.getElem_toArray,List.getElem_cons_zero,List.getElem_cons_succ] at s0 s1 s2;go_wp2_with fail
 refine t1.mono ?_;rintro e w0 ⟨rfl,hb1⟩;have t2:=HT2.out w0 hb1;have HB0:=A5 hb1;clear t1 hb1 HT2;go_wp2_with fail
 refine t2.mono ?_;rintro e w1 ⟨rfl,hb2⟩;have HB1:=A5 (Ab HB0.out hb2);have HL0:Hid (LS AA w1 _ _ []):=A6 (LS.new AA w1);clear t2 hb2 HB0;go_wp2_with fail
 refine Fw 122 (fun j tm wr=>∃k:Nat,j=xs.length-k/\k<=xs.length/\∃vv,Fs tm [(1,.int .i64 (Z:Int)),(2,.slice (some ⟨g0,0,none⟩) xs.length c0),(7,.int .i64 A),(8,.int .i64 AT),(9,vv),(10,.int .i64 (k:Int))]/\LS AA w1 wr vv (Fm A AT Z xs k)) xs.length (by simp[hsz]) ⟨0,by omega,by omega,_,by simp[Fs,s0,s1,s2,hsz],HL0.out⟩ ?_;clear s0 s1 s2 hsz HL0;clear tm;intro j tm wr J K hsz hI hJ hK;obtain⟨k,hj,hk,vv,hs,hls⟩:=hI;obtain⟨⟨g,c,rfl,hrw⟩,hbw⟩:=hls;simp only[Fs] at hs;obtain⟨s1,s2,s7,s8,s9,s10,-⟩:=hs;have hlek:=HLEN.out k (by omega);subst hj;by_cases hlt:k<xs.length
 ·have K0:(0:Int)<=(k:Int):=by omega
  have K1:(k:Int)<(xs.length:Int):=by omega
  have HNX:=HTO.out k;obtain⟨x,hx,hkk,hg,hcl⟩:=HCL.out k hlt;rw[hx] at HNX;have HNX:=A5 HNX;have bx1:=hkk.p;have bx2:=hkk.c;have bx3:=hkk.o;obtain⟨u0,u1,u2,u3,u4⟩:=hcl wr (Ab HB1.out hbw);generalize Fm A AT Z xs k=L at *;have HRW:=A5 hrw;have HBW:=A5 hbw;have hgl:g<wr.heap.size:=(hrw.own g rfl).2;clear hrw hbw hx hkk hcl;go_upto_if 31 with fail
  refine wp_cond_true (by go_simp<;>omega) ?_;go_upto_region 9 with fail
  obtain⟨wx,hwx⟩:∃wx,wx=wr.alloc (.cells #[.int .i64 x.page,.int .i64 x.count,.int .i64 x.out,.int .i64 x.perm,.bool x.huge] 103):=⟨_,rfl⟩
  have HX:Hid (SR w1 wr.heap.size wx g c L x):=A6 (by
   rw[hwx]
   refine⟨HRW.out.below AO,by omega,?_,?_,?_,?_,?_,fun i hi=>?_,Ab HBW.out AO,HBW.out.size,by simp⟩
   iterate 5 (simp[go_sem])
   ·rcases(show i=0\/i=1\/i=2\/i=3\/i=4 by omega) with rfl|rfl|rfl|rfl|rfl<;>simp[go_sem])
  rw[<- hwx];clear hwx u0 u1 u2 u3 u4 HRW HBW hgl;generalize wr.heap.size=B at *;obtain⟨PR,hPR⟩:∃PR,(if (k:Int)=AT then E8 A x else [])=PR:=⟨_,rfl⟩
  obtain⟨LSx,hLS⟩:∃LSx,(if (k:Int)=AT then DA A Z x else x)=LSx:=⟨_,rfl⟩
  rw[hPR,hLS] at HNX;have HPR:=A5 hPR.symm;have HLS:=A5 hLS.symm
  have HLE:Hid ((L++PR).length<=9000):=A6 (by
   have h1:PR.length<=1:=by rw[HPR.out];split;exact Mo _ _;simp
   rw[List.length_append];omega)
  clear hPR hLS;refine Hm 122 [(1,.int .i64 (Z:Int)),(2,.slice (some ⟨g0,0,none⟩) xs.length c0),(7,.int .i64 A),(8,.int .i64 AT),(9,.slice (some ⟨g,0,none⟩) L.length c),(10,.int .i64 (k:Int)),(11,.pointer (some ⟨B,0,none⟩))] (by simp[hsz]) (by simp only[Fs];and_intros<;>simp[hsz,s1,s2,s7,s8,s9,s10]) ?_;clear s1 s2 s7 s8 s9 s10 hsz;clear tm;intro tm hsz hs;simp only[Fs] at hs;obtain⟨s1,s2,s7,s8,s9,s10,s11,-⟩:=hs;obtain⟨LX,y0,y1,y2,y3,y4,v0,v1,v2,v3,v4⟩:=HX.out.all;go_upto_if 40 with fail
  refine Vt 122 (fun tm wz=>∃g' c',Fs tm [(1,.int .i64 (Z:Int)),(2,.slice (some ⟨g0,0,none⟩) xs.length c0),(7,.int .i64 A),(8,.int .i64 AT),(9,.slice (some ⟨g',0,none⟩) (L++PR).length c'),(10,.int .i64 (k:Int)),(11,.pointer (some ⟨B,0,none⟩))]/\SR w1 B wz g' c' (L++PR) LSx) ?_ ?_
  ·intro J K hJ hK;clear HNX HLE;by_cases hk:(k:Int)=AT
   ·(have hkb:((k:Int)==AT)=true:=by simpa using hk);have HPR0:Hid (PR=E8 A x):=A6 (by rw[HPR.out,if_pos hk]);have HLS0:Hid (LSx=DA A Z x):=A6 (by rw[HLS.out,if_pos hk]);clear HPR HLS hk;(go_upto_if 40 with fail);refine cT ?_;rcases(show A=0\/A=1\/A=2\/A=3\/A=4\/A=5\/A=6\/A=7\/8<=A by omega) with rfl|rfl|rfl|rfl|rfl|rfl|rfl|rfl|hA
    ·have HPR:Hid (PR=[]):=A6 (by rw[HPR0.out];unfold E8;simp);have HLS:Hid (LSx=⟨x.page,0,x.out,x.perm,x.huge⟩):=A6 (by rw[HLS0.out];unfold DA;simp);clear HPR0 HLS0;rw[HPR.out,HLS.out,List.append_nil] at hJ;(go_upto_if 42 with fail);refine cT ?_;(go_upto_if 45 with fail);refine cF ?_;(go_upto_if 51 with fail);refine cF ?_;(go_upto_if 57 with fail);refine cF ?_;(go_upto_if 66 with fail);refine cF ?_;(go_upto_if 71 with fail);refine cF ?_;(go_upto_if 85 with fail);refine cF ?_;(go_upto_if 112 with fail);refine cF ?_;(go_wp2_with fail);refine Met.intro (hJ _ _ (by simp[hsz]) ⟨g,c,(by simp only[Fs];and_intros<;>simp[hsz,s1,s2,s7,s8,s9,s10,s11]),?_⟩);exact HX.out.s1 _
    ·have W1:=AR (x.page-40);have HPR:Hid (PR=[]):=A6 (by rw[HPR0.out];unfold E8;simp);have HLS:Hid (LSx=⟨x.page-40,x.count,x.out,x.perm,x.huge⟩):=A6 (by rw[HLS0.out];unfold DA;simp);clear HPR0 HLS0;rw[HPR.out,HLS.out,List.append_nil] at hJ;(go_upto_if 42 with fail);refine cF ?_;(go_upto_if 45 with fail);refine cT ?_;(go_upto_if 51 with fail);refine cF ?_;(go_upto_if 57 with fail);refine cF ?_;(go_upto_if 66 with fail);refine cF ?_;(go_upto_if 71 with fail);refine cF ?_;(go_upto_if 85 with fail);refine cF ?_;(go_upto_if 112 with fail);refine cF ?_;(go_wp2_with fail);refine Met.intro (hJ _ _ (by simp[hsz]) ⟨g,c,(by simp only[Fs];and_intros<;>simp[hsz,s1,s2,s7,s8,s9,s10,s11]),?_⟩);exact HX.out.s0 _
    ·have W1:=AR (x.count+60);have HPR:Hid (PR=[]):=A6 (by rw[HPR0.out];unfold E8;simp);have HLS:Hid (LSx=⟨x.page,x.count+60,x.out,x.perm,x.huge⟩):=A6 (by rw[HLS0.out];unfold DA;simp);clear HPR0 HLS0;rw[HPR.out,HLS.out,List.append_nil] at hJ;(go_upto_if 42 with fail);refine cF ?_;(go_upto_if 45 with fail);refine cF ?_;(go_upto_if 51 with fail);refine cT ?_;(go_upto_if 57 with fail);refine cF ?_;(go_upto_if 66 with fail);refine cF ?_;(go_upto_if 71 with fail);refine cF ?_;(go_upto_if 85 with fail);refine cF ?_;(go_upto_if 112 with fail);refine cF ?_;(go_wp2_with fail);refine Met.intro (hJ _ _ (by simp[hsz]) ⟨g,c,(by simp only[Fs];and_intros<;>simp[hsz,s1,s2,s7,s8,s9,s10,s11]),?_⟩);exact HX.out.s1 _
    ·(obtain⟨z2,hz2'⟩:∃z2:Int,(Z:Int)%2=z2:=⟨_,rfl⟩);(have ez2:(Z:Int).tmod 2=z2:=by rw[Int.tmod_eq_emod_of_nonneg (by omega)];exact hz2');have HZ2:=A5 hz2';(have bz2:0<=z2/\z2<=1:=by omega);clear hz2';have W1:=AR (65536-x.count);have W2:=AR (65536-x.count+z2);have HPR:Hid (PR=[]):=A6 (by rw[HPR0.out];unfold E8;simp);have HLS:Hid (LSx=⟨x.page,x.count,65536-x.count+z2,x.perm,x.huge⟩):=A6 (by rw[HLS0.out];unfold DA;simp;exact HZ2.out);clear HPR0 HLS0;rw[HPR.out,HLS.out,List.append_nil] at hJ;(go_upto_if 42 with fail);refine cF ?_;(go_upto_if 45 with fail);refine cF ?_;(go_upto_if 51 with fail);refine cF ?_;(go_upto_if 57 with fail);refine cT ?_;(go_upto_if 66 with fail);refine cF ?_;(go_upto_if 71 with fail);refine cF ?_;(go_upto_if 85 with fail);refine cF ?_;(go_upto_if 112 with fail);refine cF ?_;(go_wp2_with fail);refine Met.intro (hJ _ _ (by simp[hsz]) ⟨g,c,(by simp only[Fs];and_intros<;>simp[hsz,s1,s2,s7,s8,s9,s10,s11]),?_⟩);exact HX.out.s2 _
    ·(obtain⟨z9,hz9'⟩:∃z9:Int,(Z:Int)%9=z9:=⟨_,rfl⟩);(have ez9:(Z:Int).tmod 9=z9:=by rw[Int.tmod_eq_emod_of_nonneg (by omega)];exact hz9');have HZ9:=A5 hz9';clear hz9';have HPR:Hid (PR=[]):=A6 (by rw[HPR0.out];unfold E8;simp);have HLS:Hid (LSx=⟨x.page,x.count,x.out,z9,x.huge⟩):=A6 (by rw[HLS0.out];unfold DA;simp;exact HZ9.out);clear HPR0 HLS0;rw[HPR.out,HLS.out,List.append_nil] at hJ;(go_upto_if 42 with fail);refine cF ?_;(go_upto_if 45 with fail);refine cF ?_;(go_upto_if 51 with fail);refine cF ?_;(go_upto_if 57 with fail);refine cF ?_;(go_upto_if 66 with fail);refine cT ?_;(go_upto_if 71 with fail);refine cF ?_;(go_upto_if 85 with fail);refine cF ?_;(go_upto_if 112 with fail);refine cF ?_;(go_wp2_with fail);refine Met.intro (hJ _ _ (by simp[hsz]) ⟨g,c,(by simp only[Fs];and_intros<;>simp[hsz,s1,s2,s7,s8,s9,s10,s11]),?_⟩);exact HX.out.s3 _
    ·(obtain⟨z2,hz2'⟩:∃z2:Int,(Z:Int)%2=z2:=⟨_,rfl⟩);(have ez2:(Z:Int).tmod 2=z2:=by rw[Int.tmod_eq_emod_of_nonneg (by omega)];exact hz2');have HZ2:=A5 hz2';(have bz2:0<=z2/\z2<=1:=by omega);clear hz2';have W1:=AR (4096-x.count);have W2:=AR (4096-x.count+z2);have HPR:Hid (PR=[]):=A6 (by rw[HPR0.out];unfold E8;simp);have HLS:Hid (LSx=⟨4096-x.count+z2,x.count,x.out,x.perm,x.huge⟩):=A6 (by rw[HLS0.out];unfold DA;simp;exact HZ2.out);clear HPR0 HLS0;rw[HPR.out,HLS.out,List.append_nil] at hJ;(go_upto_if 42 with fail);refine cF ?_;(go_upto_if 45 with fail);refine cF ?_;(go_upto_if 51 with fail);refine cF ?_;(go_upto_if 57 with fail);refine cF ?_;(go_upto_if 66 with fail);refine cF ?_;(go_upto_if 71 with fail);refine cT ?_;(go_upto_if 85 with fail);refine cF ?_;(go_upto_if 112 with fail);refine cF ?_;(go_wp2_with fail);refine Met.intro (hJ _ _ (by simp[hsz]) ⟨g,c,(by simp only[Fs];and_intros<;>simp[hsz,s1,s2,s7,s8,s9,s10,s11]),?_⟩);exact HX.out.s0 _
    ·by_cases hcn:1<x.count
     ·(obtain⟨z2,hz2'⟩:∃z2:Int,(Z:Int)%2=z2:=⟨_,rfl⟩);(have ez2:(Z:Int).tmod 2=z2:=by rw[Int.tmod_eq_emod_of_nonneg (by omega)];exact hz2');have HZ2:=A5 hz2';clear hz2';have W1:=AR (x.page+1);have W2:=AR (x.out+1);have W3:=AR (x.count-1);have HPR:Hid (PR=[(⟨x.page,1,x.out,x.perm,x.huge⟩:AE)]):=A6 (by rw[HPR0.out];unfold E8;simp[hcn]);by_cases hpar:z2=0
      ·(have hp:(z2==0)=true:=by simpa using hpar);have HLS:Hid (LSx=⟨x.page+1,x.count-1,x.out+1,x.perm,!x.huge⟩):=A6 (by rw[HLS0.out];unfold DA;simp[hcn,HZ2.out,hpar]);clear HPR0 HLS0 hpar;rw[HPR.out,HLS.out] at hJ;(go_upto_if 42 with fail);refine cF ?_;(go_upto_if 45 with fail);refine cF ?_;(go_upto_if 51 with fail);refine cF ?_;(go_upto_if 57 with fail);refine cF ?_;(go_upto_if 66 with fail);refine cF ?_;(go_upto_if 71 with fail);refine cF ?_;(go_upto_if 85 with fail);refine cT ?_;(go_upto_region 25 with fail);(obtain⟨w8,hw8⟩:∃w8,w8=wx.alloc (.cells #[.int .i64 x.page,.int .i64 1,.int .i64 x.out,.int .i64 x.perm,.bool x.huge] 103):=⟨_,rfl⟩);have HX8:Hid (SR w1 B w8 g c L x):=A6 (by rw[hw8];exact HX.out.below AO);have hcy:w8.cell? ⟨wx.heap.size,0,none⟩=some (.int .i64 x.page)/\w8.cell? ⟨wx.heap.size,1,none⟩=some (.int .i64 1)/\w8.cell? ⟨wx.heap.size,2,none⟩=some (.int .i64 x.out)/\w8.cell? ⟨wx.heap.size,3,none⟩=some (.int .i64 x.perm)/\w8.cell? ⟨wx.heap.size,4,none⟩=some (.bool x.huge):=by
        rw[hw8];refine⟨?_,?_,?_,?_,?_⟩<;>simp[go_sem]
       obtain⟨q0,q1,q2,q3,q4⟩:=hcy;rw[<- hw8];clear hw8;clear LX y0 y1 y2 y3 y4 v0 v1 v2 v3 v4;have HRXy:Hid (A8 AA (w8.alloc (.cells #[.int .i64 x.page,.int .i64 1,.int .i64 x.out,.int .i64 x.perm,.bool x.huge] 103)) w1.heap.size (.slice (some ⟨g,0,none⟩) L.length c) L):=A6 (HX8.out.row.below AO);have hywy:w1.heap.size<=w8.heap.size:=HX8.out.bel.size;(go_wp2_with (at_builtin;refine wpList_append_lies _ rfl (.tmp 88) (.tmp 90) 30 rfl w1.heap.size 103 iA _ 5 40 underlying30 hiA hz0 hz1 hz2 rfl (by omega) (.slice (some ⟨g,0,none⟩) L.length c) _ _ (by go_simp) HRXy.out ⟨w8.heap.size,0,none⟩ 1 1 [.int .i64 x.page,.int .i64 1,.int .i64 x.out,.int .i64 x.perm,.bool x.huge] (by go_simp) rfl (by exact World.news_of_block (heap_alloc_new _ _)) (by intro u hu;simp at hu;rcases hu with rfl|rfl|rfl|rfl|rfl<;>rfl) (by omega) (by unfold maxLen;omega) (by omega) (by first|omega|(simp;omega)) _ rfl ?_));intro gny cny wny hown hgrow hat hlt3;have HX2:Hid (SR w1 B wny gny cny (L++[(⟨x.page,1,x.out,x.perm,x.huge⟩:AE)]) x):=A6 (HX8.out.push (y:=(⟨x.page,1,x.out,x.perm,x.huge⟩:AE)) hown hgrow hat);clear hown hgrow hat hlt3 q0 q1 q2 q3 q4 HRXy hywy;obtain⟨LX,y0,y1,y2,y3,y4,v0,v1,v2,v3,v4⟩:=HX2.out.all;(go_upto_if 106 with fail);refine cT ?_;(go_upto_if 112 with fail);refine cF ?_;(go_wp2_with fail);refine Met.intro (hJ _ _ (by simp[hsz]) ⟨gny,cny,(by simp only[Fs];and_intros<;>simp[hsz,List.length_append,s1,s2,s7,s8,s9,s10,s11]),?_⟩);exact((((HX2.out.s0 _).s2 _).s1 _).s4 _)
      ·(have hp:(z2==0)=false:=by simpa using hpar);have HLS:Hid (LSx=⟨x.page+1,x.count-1,x.out+1,x.perm,x.huge⟩):=A6 (by rw[HLS0.out];unfold DA;simp[hcn,HZ2.out,hpar]);clear HPR0 HLS0 hpar;rw[HPR.out,HLS.out] at hJ;(go_upto_if 42 with fail);refine cF ?_;(go_upto_if 45 with fail);refine cF ?_;(go_upto_if 51 with fail);refine cF ?_;(go_upto_if 57 with fail);refine cF ?_;(go_upto_if 66 with fail);refine cF ?_;(go_upto_if 71 with fail);refine cF ?_;(go_upto_if 85 with fail);refine cT ?_;(go_upto_region 25 with fail);(obtain⟨w8,hw8⟩:∃w8,w8=wx.alloc (.cells #[.int .i64 x.page,.int .i64 1,.int .i64 x.out,.int .i64 x.perm,.bool x.huge] 103):=⟨_,rfl⟩);have HX8:Hid (SR w1 B w8 g c L x):=A6 (by rw[hw8];exact HX.out.below AO);have hcy:w8.cell? ⟨wx.heap.size,0,none⟩=some (.int .i64 x.page)/\w8.cell? ⟨wx.heap.size,1,none⟩=some (.int .i64 1)/\w8.cell? ⟨wx.heap.size,2,none⟩=some (.int .i64 x.out)/\w8.cell? ⟨wx.heap.size,3,none⟩=some (.int .i64 x.perm)/\w8.cell? ⟨wx.heap.size,4,none⟩=some (.bool x.huge):=by
        rw[hw8];refine⟨?_,?_,?_,?_,?_⟩<;>simp[go_sem]
       obtain⟨q0,q1,q2,q3,q4⟩:=hcy;rw[<- hw8];clear hw8;clear LX y0 y1 y2 y3 y4 v0 v1 v2 v3 v4;have HRXy:Hid (A8 AA (w8.alloc (.cells #[.int .i64 x.page,.int .i64 1,.int .i64 x.out,.int .i64 x.perm,.bool x.huge] 103)) w1.heap.size (.slice (some ⟨g,0,none⟩) L.length c) L):=A6 (HX8.out.row.below AO);have hywy:w1.heap.size<=w8.heap.size:=HX8.out.bel.size;(go_wp2_with (at_builtin;refine wpList_append_lies _ rfl (.tmp 88) (.tmp 90) 30 rfl w1.heap.size 103 iA _ 5 40 underlying30 hiA hz0 hz1 hz2 rfl (by omega) (.slice (some ⟨g,0,none⟩) L.length c) _ _ (by go_simp) HRXy.out ⟨w8.heap.size,0,none⟩ 1 1 [.int .i64 x.page,.int .i64 1,.int .i64 x.out,.int .i64 x.perm,.bool x.huge] (by go_simp) rfl (by exact World.news_of_block (heap_alloc_new _ _)) (by intro u hu;simp at hu;rcases hu with rfl|rfl|rfl|rfl|rfl<;>rfl) (by omega) (by unfold maxLen;omega) (by omega) (by first|omega|(simp;omega)) _ rfl ?_));intro gny cny wny hown hgrow hat hlt3;have HX2:Hid (SR w1 B wny gny cny (L++[(⟨x.page,1,x.out,x.perm,x.huge⟩:AE)]) x):=A6 (HX8.out.push (y:=(⟨x.page,1,x.out,x.perm,x.huge⟩:AE)) hown hgrow hat);clear hown hgrow hat hlt3 q0 q1 q2 q3 q4 HRXy hywy;obtain⟨LX,y0,y1,y2,y3,y4,v0,v1,v2,v3,v4⟩:=HX2.out.all;(go_upto_if 106 with fail);refine cF ?_;(go_upto_if 112 with fail);refine cF ?_;(go_wp2_with fail);refine Met.intro (hJ _ _ (by simp[hsz]) ⟨gny,cny,(by simp only[Fs];and_intros<;>simp[hsz,List.length_append,s1,s2,s7,s8,s9,s10,s11]),?_⟩);exact(((HX2.out.s0 _).s2 _).s1 _)
     ·have HPR:Hid (PR=[]):=A6 (by rw[HPR0.out];unfold E8;simp[hcn]);have HLS:Hid (LSx=x):=A6 (by rw[HLS0.out];unfold DA;simp[hcn]);clear HPR0 HLS0;rw[HPR.out,HLS.out,List.append_nil] at hJ;(go_upto_if 42 with fail);refine cF ?_;(go_upto_if 45 with fail);refine cF ?_;(go_upto_if 51 with fail);refine cF ?_;(go_upto_if 57 with fail);refine cF ?_;(go_upto_if 66 with fail);refine cF ?_;(go_upto_if 71 with fail);refine cF ?_;(go_upto_if 85 with fail);refine cF ?_;(go_upto_if 112 with fail);refine cF ?_;(go_wp2_with fail);refine Met.intro (hJ _ _ (by simp[hsz]) ⟨g,c,(by simp only[Fs];and_intros<;>simp[hsz,s1,s2,s7,s8,s9,s10,s11]),?_⟩);exact HX.out
    ·have HPR:Hid (PR=[x]):=A6 (by rw[HPR0.out];unfold E8;simp);have HLS:Hid (LSx=x):=A6 (by rw[HLS0.out];unfold DA;simp);clear HPR0 HLS0;rw[HPR.out,HLS.out] at hJ;(go_upto_if 42 with fail);refine cF ?_;(go_upto_if 45 with fail);refine cF ?_;(go_upto_if 51 with fail);refine cF ?_;(go_upto_if 57 with fail);refine cF ?_;(go_upto_if 66 with fail);refine cF ?_;(go_upto_if 71 with fail);refine cF ?_;(go_upto_if 85 with fail);refine cF ?_;(go_upto_if 112 with fail);refine cT ?_;have HRXy:Hid (A8 AA (wx.alloc (.cells #[.int .i64 x.page,.int .i64 x.count,.int .i64 x.out,.int .i64 x.perm,.bool x.huge] 103)) w1.heap.size (.slice (some ⟨g,0,none⟩) L.length c) L):=A6 (HX.out.row.below AO);have hywy:w1.heap.size<=wx.heap.size:=HX.out.bel.size;(go_wp2_with (at_builtin;refine wpList_append_lies _ rfl (.tmp 113) (.tmp 115) 30 rfl w1.heap.size 103 iA _ 5 40 underlying30 hiA hz0 hz1 hz2 rfl (by omega) (.slice (some ⟨g,0,none⟩) L.length c) _ _ (by go_simp) HRXy.out ⟨wx.heap.size,0,none⟩ 1 1 [.int .i64 x.page,.int .i64 x.count,.int .i64 x.out,.int .i64 x.perm,.bool x.huge] (by go_simp) rfl (by exact World.news_of_block (heap_alloc_new _ _)) (by intro u hu;simp at hu;rcases hu with rfl|rfl|rfl|rfl|rfl<;>rfl) (by omega) (by unfold maxLen;omega) (by omega) (by first|omega|(simp;omega)) _ rfl ?_));intro gny cny wny hown hgrow hat hlt3;have HX2:Hid (SR w1 B wny gny cny (L++[x]) x):=A6 (HX.out.push (y:=x) hown hgrow hat);clear hown hgrow hat hlt3;(go_wp2_with fail);refine Met.intro (hJ _ _ (by simp[hsz]) ⟨gny,cny,(by simp only[Fs];and_intros<;>simp[hsz,List.length_append,s1,s2,s7,s8,s9,s10,s11]),?_⟩);exact HX2.out
    ·(have n0:(A==0)=false:=by simp;omega);(have n1:(A==1)=false:=by simp;omega);(have n2:(A==2)=false:=by simp;omega);(have n3:(A==3)=false:=by simp;omega);(have n4:(A==4)=false:=by simp;omega);(have n5:(A==5)=false:=by simp;omega);(have n6:(A==6)=false:=by simp;omega);(have n7:(A==7)=false:=by simp;omega);have HPR:Hid (PR=[]):=A6 (by rw[HPR0.out];unfold E8;rw[if_neg (by omega),if_neg (by omega)]);have HLS:Hid (LSx=x):=A6 (by rw[HLS0.out];unfold DA;rw[if_neg (by omega),if_neg (by omega),if_neg (by omega),if_neg (by omega),if_neg (by omega),if_neg (by omega),if_neg (by omega)]);clear HPR0 HLS0;rw[HPR.out,HLS.out,List.append_nil] at hJ;(go_upto_if 42 with fail);refine cF ?_;(go_upto_if 45 with fail);refine cF ?_;(go_upto_if 51 with fail);refine cF ?_;(go_upto_if 57 with fail);refine cF ?_;(go_upto_if 66 with fail);refine cF ?_;(go_upto_if 71 with fail);refine cF ?_;(go_upto_if 85 with fail);refine cF ?_;(go_upto_if 112 with fail);refine cF ?_;(go_wp2_with fail);refine Met.intro (hJ _ _ (by simp[hsz]) ⟨g,c,(by simp only[Fs];and_intros<;>simp[hsz,s1,s2,s7,s8,s9,s10,s11]),?_⟩);exact HX.out
   ·(have hkb:((k:Int)==AT)=false:=by simpa using hk);have HPR0:Hid (PR=[]):=A6 (by rw[HPR.out,if_neg hk]);have HLS0:Hid (LSx=x):=A6 (by rw[HLS.out,if_neg hk]);clear HPR HLS;rw[HPR0.out,HLS0.out,List.append_nil] at hJ;(go_upto_if 40 with fail);refine cF ?_;(go_wp2_with fail);refine Met.intro (hJ _ _ (by simp[hsz]) ⟨g,c,(by simp only[Fs];and_intros<;>simp[hsz,s1,s2,s7,s8,s9,s10,s11]),?_⟩);exact HX.out
  clear s1 s2 s7 s8 s9 s10 s11 hsz LX y0 y1 y2 y3 y4 v0 v1 v2 v3 v4 HX;clear tm;intro tm wc hsz hcut;obtain⟨g',c',hs,hsr⟩:=hcut;simp only[Fs] at hs;obtain⟨s1,s2,s7,s8,s9,s10,s11,-⟩:=hs;have HXO:=A5 hsr;have hle:(L++PR).length<=9000:=HLE.out;clear hsr;generalize L++PR=LP at *;obtain⟨LX,y0,y1,y2,y3,y4,v0,v1,v2,v3,v4⟩:=HXO.out.all;have HRXz:Hid (A8 AA (wc.alloc (.cells #[.int .i64 LSx.page,.int .i64 LSx.count,.int .i64 LSx.out,.int .i64 LSx.perm,.bool LSx.huge] 103)) w1.heap.size (.slice (some ⟨g',0,none⟩) LP.length c') LP):=A6 (HXO.out.row.below AO);have hywz:w1.heap.size<=wc.heap.size:=HXO.out.bel.size;go_wp2_with (at_builtin;refine wpList_append_lies _ rfl (.tmp 117) (.tmp 119) 30 rfl w1.heap.size 103 iA _ 5 40 underlying30 hiA hz0 hz1 hz2 rfl (by omega) (.slice (some ⟨g',0,none⟩) LP.length c') _ _ (by go_simp) HRXz.out ⟨wc.heap.size,0,none⟩ 1 1 [.int .i64 LSx.page,.int .i64 LSx.count,.int .i64 LSx.out,.int .i64 LSx.perm,.bool LSx.huge] (by go_simp) rfl (by exact World.news_of_block (heap_alloc_new _ _)) (by intro u hu;simp at hu;rcases hu with rfl|rfl|rfl|rfl|rfl<;>rfl) (by omega) (by unfold maxLen;omega) (by omega) (by first|omega|(simp;omega)) _ rfl ?_)
  intro gnz cnz wnz hown hgrow hat hlt3;have hls:=LS.push (E:=AA) (x:=LSx) HXO.out.bel HXO.out.row hown hgrow;have HLSN:=A5 hls;clear hown hgrow hat hlt3 hls;clear LX y0 y1 y2 y3 y4 v0 v1 v2 v3 v4;go_wp2_with fail
  refine Met.intro (hJ (xs.length-(k+1)) _ _ (by simp[hsz]) ⟨k+1,rfl,by omega,.slice (some ⟨gnz,0,none⟩) (LP.length+1) cnz,by rw[show ((k+1:Nat):Int)=(k:Int)+1 by omega];exact(by simp only[Fs];and_intros<;>simp[hsz,s1,s2,s7,s8,s9,s10,s11]),by rw[HNX.out];exact HLSN.out⟩ (by omega))
 ·obtain rfl:k=xs.length:=by omega
  have K2:¬(xs.length:Int)<(xs.length:Int):=by omega
  have HFR:Hid (A8 AA wr w.heap.size (.slice (some ⟨g,0,none⟩) (Fm A AT Z xs xs.length).length c) (Fm A AT Z xs xs.length)):=A6 (hrw.rebase HB1.out.size);have HFB:=A5 (Ab HB1.out hbw);clear hrw hbw;go_upto_if 31 with fail
  refine wp_cond_false (by go_simp<;>omega) ?_;go_wp2_with fail
  exact bodyPost_ret (v:=.slice (some ⟨g,0,none⟩) (Fm A AT Z xs xs.length).length c) (by simp[results,results137,go_sem,s9,hsz]) rfl ⟨g,c,rfl,HFR.out,HFB.out⟩
end Go.Proofs.YtnmhkgmmpkjjeaaGreat
