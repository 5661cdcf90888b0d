import Derived.Test.YtnmhkgmmpkjjeaaGreatM36
import Derived.Test.YtnmhkgmmpkjjeaaGreatM06
namespace Go.Proofs.YtnmhkgmmpkjjeaaGreat
open ChangeShapes WideShapes ChangeAt RowKit Proofs.Tryz
set_option linter.all false
set_option maxRecDepth 100000
set_option maxHeartbeats 4000000
section
attribute [local go_sem ↓] wp_at_zero wp_at_succ
attribute [local go_sem] DU FG FM H5 FE Du
def Ol (all:List St) (page:Int) (s:St):Bool:=s.kind==2&&(decide (s.a<=page)&&decide (page<s.a+(By all s.name).a))
def OE:AE:=⟨0,0,0,0,false⟩
def KW (all:List St) (page:Int) (s:St):AE:=⟨page,1,(By all s.name).b+page-s.a,s.perm,s.extra⟩
def Bt (all:List St) (page:Int):AE:=match all.find? (Ol all page) with
 | some s=>KW all page s
 | none=>OE
def Rz (s:AE):Value:=.agg #[.int .i64 s.page,.int .i64 s.count,.int .i64 s.out,.int .i64 s.perm,.bool s.huge]
theorem Ms{all xs:List St}{page:Int}:∀{xs:List St} (k:Nat),k<xs.length->(∀j,j<k->Ol all page (BN xs j)=false)->Ol all page (BN xs k)=true->xs.find? (Ol all page)=some (BN xs k)
 | [],k,hk,_,_=>absurd hk (by simp)
 | x :: r,0,_,_,h=>by
  have h':Ol all page x=true:=h;rw[List.find?_cons_of_pos (by exact h')];rfl
 | x :: r,k+1,hk,hn,h=>by
  have h0:Ol all page x=false:=hn 0 (by omega);rw[List.find?_cons_of_neg (by rw[h0];decide)];exact Ms (xs:=r) k (by simpa using hk) (fun j hj=>hn (j+1) (by omega)) h
theorem Q7{all:List St}{page:Int}{xs:List St}(h:∀j,j<xs.length->Ol all page (BN xs j)=false):xs.find? (Ol all page)=none:=by
 rw[List.find?_eq_none];intro x hx;obtain⟨i,hi,rfl⟩:=List.getElem_of_mem hx;have:=h i hi;unfold BN at this;rw[List.getD_eq_getElem?_getD,List.getElem?_eq_getElem hi] at this;have h2:Ol all page xs[i]=false:=this;rw[h2];decide
theorem Oo(a:Option Addr)(c:Nat)(all:List St)(page:Int)(w:World)(hle:all.length<=1000)(hok:∀s∈all,Ev s)(hp0:0<=page)(hp1:page<4096)(hr:Q1 w a all):Calls prog 104 #[.slice a all.length c,.int .i64 page] w (AM w (Rz (Bt all page))):=by
 obtain⟨wb,hwb⟩:∃wb,wb=w.alloc (.cells #[.int .i64 0,.int .i64 0,.int .i64 0,.int .i64 0,.bool false] 103):=⟨_,rfl⟩
 have hbb:Bl w wb:=by rw[hwb];exact AO
 have hzb:w.heap.size<wb.heap.size:=by rw[hwb];simp
 have HQ:Hid (∀wX,Bl wb wX->(wX.cell? ⟨w.heap.size,0,none⟩=some (.int .i64 0)/\wX.cell? ⟨w.heap.size,1,none⟩=some (.int .i64 0)/\wX.cell? ⟨w.heap.size,2,none⟩=some (.int .i64 0)/\wX.cell? ⟨w.heap.size,3,none⟩=some (.int .i64 0)/\wX.cell? ⟨w.heap.size,4,none⟩=some (.bool false))/\(wX.frozen? ⟨w.heap.size,0,none⟩=false/\wX.frozen? ⟨w.heap.size,1,none⟩=false/\wX.frozen? ⟨w.heap.size,2,none⟩=false/\wX.frozen? ⟨w.heap.size,3,none⟩=false/\wX.frozen? ⟨w.heap.size,4,none⟩=false)):=A6 fun wX hX=>by
  refine⟨⟨?_,?_,?_,?_,?_⟩,⟨?_,?_,?_,?_,?_⟩⟩;iterate 5 (exact(hX.cell (by simpa using hzb)).trans (by rw[hwb];simp[go_sem]))
  iterate 5 (exact(hX.frozen (by simpa using hzb)).trans (by rw[hwb];simp[go_sem]))
 have HR:Hid (∀wX,Bl wb wX->Q1 wX a all):=A6 fun wX hX=>hr.below (hbb.trans (hX.mono (by omega)))
 have HO:Hid (∀n wX,Bl wb wX->Calls prog 100 #[.slice a all.length c,.string (bs n)] wX (AM wX (CH (By all n)))):=A6 fun n wX hX=>Dl a c all n wX hle (HR.out wX hX)
 have HOK:=A5 hok;have HGW:Hid (∀g,a=some ⟨g,0,none⟩->0<all.length->g<w.heap.size):=A6 fun g e h0=>by
  obtain⟨g',e',hc⟩:=hr h0;rw[e] at e';simp only[Option.some.injEq,Addr.mk.injEq,and_true] at e';rw[e'];exact(hc 0 h0).lt
 have HBB:=A5 hbb;have HB0:Hid (Bl wb (w.alloc (.cells #[.int .i64 0,.int .i64 0,.int .i64 0,.int .i64 0,.bool false] 103))):=A6 (by rw[<- hwb];exact AH);clear hwb hbb hr hok;unfold Rz;go_enter func104,ntmps104
 go_wp2_with fail
 go_loopw [5] (fun iv wr=>∃k:Nat,k<=all.length/\iv=.int .i64 (k:Int)/\Hid (∀j,j<k->Ol all page (BN all j)=false)/\Bl wb wr) (fun iv _=>all.length-(intOf iv).toNat)
 case atStart=>exact⟨0,Nat.zero_le _,rfl,A6 fun j hj=>absurd hj (by omega),HB0.out⟩
 case round =>
  obtain⟨k,hk,rfl,HJ,hb⟩:=hrel;have sr:=hb.size;by_cases hlt:k<all.length
  ·obtain⟨g,rfl,hcs⟩:=HR.out wr hb (by omega);have hst:=hcs k hlt
   have hbk:=HOK.out (BN all k) (by
    unfold BN
    rw[List.getD_eq_getElem?_getD,List.getElem?_eq_getElem hlt]
    exact List.getElem_mem hlt)
   have hob:=J0 HOK.out (BN all k).name;have ho:=HO.out (BN all k).name wr hb;have HPC:Hid (Ol all page (BN all k)=true->Bt all page=KW all page (BN all k)):=A6 fun h=>by
    unfold Bt;rw[Ms (all:=all) (xs:=all) k hlt HJ.out h]
   have HIN:Hid (Ol all page (BN all k)=((BN all k).kind==2&&(decide ((BN all k).a<=page)&&decide (page<(BN all k).a+(By all (BN all k).name).a)))):=A6 rfl;have HNX:Hid (Ol all page (BN all k)=false->∀j,j<k+1->Ol all page (BN all j)=false):=A6 fun h j hj=>by
    by_cases e:j=k
    ·rw[e];exact h
    ·exact HJ.out j (by omega)
   unfold KW at HPC;generalize Ol all page (BN all k)=IN at *;generalize By all (BN all k).name=OB at *;generalize BN all k=SS at *;obtain⟨SK,SN,A,B,P,X⟩:=SS;obtain⟨OK,ON,OA,OB,OP,OX⟩:=OB;obtain⟨hgl,c0,c1,c2,c3,c4,c5⟩:=hst;obtain⟨a1,a2,a3,a4,a5,a6⟩:=hbk;obtain⟨d1,d2,d3,d4,d5,d6⟩:=hob;unfold CH at ho;dsimp only at *;(have K1:(0:Int)<=(k:Int):=by omega);(have K2:(k:Int)<(all.length:Int):=by omega);have HB:=A5 hb;clear hb hcs;by_cases h2:SK=2
   ·subst h2;(go_wp2_with fail);refine ho.mono ?_;rintro e w1 ⟨rfl,hb1'⟩;have hb1:Bl wb w1:=HB.out.trans (hb1'.mono sr);have s1:=hb1.size;(obtain⟨wo,hwo⟩:∃wo,wo=w1.alloc (.cells #[.int .i64 OK,.string (bs ON),.int .i64 OA,.int .i64 OB,.int .i64 OP,.bool OX] 96):=⟨_,rfl⟩);(have hbo:Bl wb wo:=by rw[hwo];exact hb1.alloc s1 _);(have zo:w1.heap.size<wo.heap.size:=by rw[hwo];simp);(have hbro:Bl wr wo:=by rw[hwo];exact hb1'.alloc hb1'.size _);have HKK:Hid (∀wX,Bl wo wX->wX.cell? ⟨g,k*6+2,none⟩=some (.int .i64 A)/\wX.cell? ⟨g,k*6+4,none⟩=some (.int .i64 P)/\wX.cell? ⟨g,k*6+5,none⟩=some (.bool X)/\wX.cell? ⟨w1.heap.size,2,none⟩=some (.int .i64 OA)/\wX.cell? ⟨w1.heap.size,3,none⟩=some (.int .i64 OB)):=A6 fun wX hX=>by
     have hbx:Bl wr wX:=Ab hbro hX;refine⟨(hbx.cell hgl).trans c2,(hbx.cell hgl).trans c4,(hbx.cell hgl).trans c5,?_,?_⟩;iterate 2 (exact(hX.cell (by simpa using zo)).trans (by rw[hwo];simp[go_sem]))
    have HBO:=A5 hbo;have HWO:=A5 hwo;obtain⟨k2,k4,k5,o2,o3⟩:=HKK.out wo AH;have gw:=HGW.out g rfl (by omega);obtain⟨⟨q0,q1,q2,q3,q4⟩,⟨f0,f1,f2,f3,f4⟩⟩:=HQ.out wo hbo;clear hb1' hb1 hbo hwo hbro ho c0 c1 c2 c3 c4 c5;(go_upto_region 6 with fail);rw[<- HWO.out];by_cases hlo:A<=page
    ·by_cases hhi:page<A+OA
     ·have W1:=AR (OB+page);have W2:=AR (OB+page-A);have HV:Hid (Bt all page=⟨page,1,OB+page-A,P,X⟩):=A6 (HPC.out (by rw[HIN.out];simp[hlo,hhi]));(go_quiet (fail));(go_wp2_with fail);refine wp_region_held_drew (S:=(fun wX=>wX.cell? ⟨g,k*6+2,none⟩=some (.int .i64 A)/\wX.cell? ⟨g,k*6+4,none⟩=some (.int .i64 P)/\wX.cell? ⟨g,k*6+5,none⟩=some (.bool X)/\wX.cell? ⟨w1.heap.size,2,none⟩=some (.int .i64 OA)/\wX.cell? ⟨w1.heap.size,3,none⟩=some (.int .i64 OB))) (by kernel_rfl) (HKK.out _ (CY AH _).drew) (fun hHeld=>?_);refine tk 0 ?_;refine tk 1 ?_;refine tk 2 ?_;refine tk 3 ?_;refine tk 4 ?_;refine tk 5 ?_;refine tk 6 ?_;refine tk 7 ?_;refine tk 8 ?_;refine tk 9 ?_;refine tk 10 ?_;refine tk 11 ?_;refine tk 12 ?_;refine tk 13 ?_;refine tk 14 ?_;refine tk 15 ?_;refine tk 16 ?_;refine tk 17 ?_;refine tk 18 ?_;refine tk 19 ?_;refine tk 20 ?_;refine tk 21 ?_;(refine Aj 22 fun K hK=>?_);go_simp;refine hK.out _ _ (by refine⟨?_,?_,?_,?_,?_⟩<;>simp[go_sem,k2,k4,k5,o2,o3]) (fun hHeld2=>?_);clear hK K;refine AZ ?_;(go_wp2_with fail);rw[HV.out];refine bodyPost_ret (v:=.agg #[.int .i64 page,.int .i64 1,.int .i64 (OB+page-A),.int .i64 P,.bool X]) (by simp[results,results104,go_sem,q0,q1,q2,q3,q4]) rfl ⟨rfl,?_⟩;exact HBB.out.trans (((((((CY HBO.out _).drew.mono (by omega)).setCell (by simp<;>omega) _).setCell (by simp<;>omega) _).setCell (by simp<;>omega) _).setCell (by simp<;>omega) _).setCell (by simp<;>omega) _)
     ·have HZ:Hid _:=A6 (HNX.out (by rw[HIN.out];simp[hhi]));(go_quiet (fail));(go_wp2_with fail);go_roundw;(case rel=>exact⟨k+1,by omega,by go_num,HZ,CY HBO.out _⟩);case measure=>first|(simp[intOf];done)|(simp[intOf];omega)
    ·have HZ:Hid _:=A6 (HNX.out (by rw[HIN.out];simp[hlo]));(go_quiet (fail));(go_wp2_with fail);go_roundw;(case rel=>exact⟨k+1,by omega,by go_num,HZ,CY HBO.out _⟩);case measure=>first|(simp[intOf];done)|(simp[intOf];omega)
   ·(have h2b:(SK==2)=false:=by simpa using h2);have HZ:Hid _:=A6 (HNX.out (by rw[HIN.out,h2b];rfl));(go_wp2_with fail);go_roundw;(case rel=>exact⟨k+1,by omega,by go_num,HZ,HB.out⟩);case measure=>first|(simp[intOf];done)|(simp[intOf];omega)
  ·have HV:Hid (Bt all page=OE):=A6 (by
    unfold Bt
    rw[Q7 (fun j hj=>HJ.out j (by omega))])
   (have K2:¬(k:Int)<(all.length:Int):=by omega);have HB:=A5 hb;obtain⟨⟨q0,q1,q2,q3,q4⟩,⟨f0,f1,f2,f3,f4⟩⟩:=HQ.out wr hb;clear hb;(go_wp2_with fail);rw[HV.out];refine bodyPost_ret (v:=.agg #[.int .i64 0,.int .i64 0,.int .i64 0,.int .i64 0,.bool false]) (by simp[results,results104,go_sem,q0,q1,q2,q3,q4]) rfl ⟨rfl,?_⟩;exact HBB.out.trans ((((((HB.out.mono (by omega)).setCell (by simp<;>omega) _).setCell (by simp<;>omega) _).setCell (by simp<;>omega) _).setCell (by simp<;>omega) _).setCell (by simp<;>omega) _)
end
section
attribute [local go_sem ↓] wp_at_zero wp_at_succ
def Cl (out:List AE):AE:=AQ AA out (out.length-1)
def SJ (l:AE):AE:=⟨l.page,l.count+1,l.out,l.perm,l.huge⟩
def CQ (out:List AE) (s:AE):List AE :=
 if s.count=1 then (if 0<out.length/\Bp (Cl out) s=true then out.set (out.length-1) (SJ (Cl out)) else out++[s]) else out
def Ah (all:List St):Nat->List AE
 | 0=>[]
 | k+1=>CQ (Ah all k) (Bt all (k:Nat))
def Y8 (k:Nat) (e:AE):Prop:=0<=e.page/\e.page<=4096/\0<=e.count/\e.count<=k/\-2000000<=e.out/\e.out<=2000000
theorem XO{all:List St}(hok:∀s∈all,Ev s)(p:Nat)(hp:p<4096)(k:Nat)(hk:1<=k):Y8 k (Bt all (p:Nat)):=by
 unfold Bt;cases hf:all.find? (Ol all (p:Nat)) with
 | none =>
  show Y8 k OE;unfold Y8 OE;dsimp only;omega
 | some s =>
  have hm:=hok s (List.mem_of_find?_eq_some hf);have ho:=J0 hok s.name;have a0:=hm.a0;have a1:=hm.a1;have b0:=ho.b0;have b1:=ho.b1;refine⟨?_,?_,?_,?_,?_,?_⟩<;>show _<=_<;>unfold KW<;>dsimp only<;>omega
theorem Ny{all:List St}(hok:∀s∈all,Ev s):∀k,k<=4096->(Ah all k).length<=k/\∀e∈Ah all k,Y8 k e
 | 0,_=>⟨Nat.le_refl _,fun e h=>by cases h⟩
 | k+1,hk=>by
  obtain⟨h1,h2⟩:=Ny hok k (by omega);have up:∀e,Y8 k e->Y8 (k+1) e:=fun e ⟨a,b,c,d,x,y⟩=>⟨a,b,c,by omega,x,y⟩
  have hpw:=XO hok k (by omega) (k+1) (by omega);show (CQ (Ah all k) (Bt all (k:Nat))).length<=k+1/\∀e∈CQ (Ah all k) (Bt all (k:Nat)),Y8 (k+1) e
  unfold CQ;split
  ·split
   ·rename_i hj;refine⟨by rw[List.length_set];omega,fun e he=>?_⟩;rcases List.mem_or_eq_of_mem_set he with he|he
    ·exact up e (h2 e he)
    ·have hl:Cl (Ah all k)∈Ah all k:=by
      unfold Cl AQ;rw[List.getD_eq_getElem?_getD,List.getElem?_eq_getElem (by omega)];exact List.getElem_mem _
     obtain⟨a,b,c,d,x,y⟩:=h2 _ hl;rw[he];unfold SJ;exact⟨a,b,by show 0<=_+1;omega,by show _+1<=((k+1:Nat):Int);omega,x,y⟩
   ·refine⟨by simp;omega,fun e he=>?_⟩;rcases List.mem_append.1 he with he|he
    ·exact up e (h2 e he)
    ·rw[List.mem_singleton] at he;rw[he];exact hpw
  ·exact⟨by omega,fun e he=>up e (h2 e he)⟩
theorem Ix{xs:List AE}{m i:Nat}{x:AE}(hi:i<xs.length):AQ AA (xs.set m x) i=if i=m then x else AQ AA xs i:=by
 unfold AQ;rw[List.getD_eq_getElem?_getD,List.getD_eq_getElem?_getD,List.getElem?_set];by_cases e:m=i
 ·subst e;simp[hi]
 ·simp[e,Ne.symm e]
theorem M6{w:World}{b g c m:Nat}{xs:List AE}{P C O R:Int}{G:Bool}(h:A8 AA w b (.slice (some ⟨g,0,none⟩) xs.length c) xs)(hm:m<xs.length):A8 AA (((((w.setCell ⟨g,m*5,none⟩ (.int .i64 P)).setCell ⟨g,m*5+1,none⟩ (.int .i64 C)).setCell ⟨g,m*5+2,none⟩ (.int .i64 O)).setCell ⟨g,m*5+3,none⟩ (.int .i64 R)).setCell ⟨g,m*5+4,none⟩ (.bool G)) b (.slice (some ⟨g,0,none⟩) xs.length c) (xs.set m ⟨P,C,O,R,G⟩):=by
 rcases h.2 with⟨e,h0⟩|⟨g',cap,cur,e,hb,hg,hn,hmx,hs,ht⟩
 ·cases e
 ·simp only[Value.slice.injEq,Option.some.injEq,Addr.mk.injEq,and_true,true_and] at e;obtain⟨rfl,rfl⟩:=e;have hr:w.rowIs g 103 cur.size (fun i=>cur.getD i (.bool false)):=⟨cur,hg,rfl,fun i hi=>by simp[hi]⟩;have hs':cur.size=c*AA.sz:=hs;refine A8.of_row (cap:=c) (by simp) hb (((((hr.set (m*5) _).set (m*5+1) _).set (m*5+2) _).set (m*5+3) _).set (m*5+4) _) hs' (by simpa using hn) hmx ?_;intro i hi j hj;have hj5:j<5:=hj;have e5:i*AA.sz+j=i*5+j:=rfl;rw[e5];have hold:cur.getD (i*5+j) (.bool false)=CM AA xs i j:=by
   have hu:=F4 AA xs i (by simpa using hi) j hj;rw[<- ht,List.getElem?_take,if_pos (KS (by simpa using hi) hj)] at hu;simp only[Array.getElem?_toList] at hu;have e6:i*AA.sz+j=i*5+j:=rfl;rw[e6] at hu;simp[Array.getD_eq_getD_getElem?,hu,CM]
  by_cases e:i=m
  ·subst e;unfold CM;rw[Ix (by simpa using hi),if_pos rfl];rcases(show j=0\/j=1\/j=2\/j=3\/j=4 by omega) with rfl|rfl|rfl|rfl|rfl<;>simp[AA]
  ·(have hne:∀q,q<5->i*5+j≠m*5+q:=fun q hq=>by omega);have n0:=hne 0 (by omega);have n1:=hne 1 (by omega);have n2:=hne 2 (by omega);have n3:=hne 3 (by omega);have n4:=hne 4 (by omega);rw[Nat.add_zero] at n0;simp only[n0,n1,n2,n3,n4,if_false];rw[hold];unfold CM;rw[Ix (by simpa using hi),if_neg e]
theorem N6{w wq wn:World}{g c g1 c1:Nat}{l:List AE}{x:AE}(hbel:Bl w wq)(hr:A8 AA wq w.heap.size (.slice (some ⟨g,0,none⟩) l.length c) l)(hown:wn.ownsRow w.heap.size AA.T AA.sz (.slice (some ⟨g1,0,none⟩) (l.length+1) c1) (l.length+1) (AK AA l++AA.enc x))(hgrow:wq.grownBy wn (Value.ownBlock (.slice (some ⟨g,0,none⟩) l.length c))):A8 AA wn w.heap.size (.slice (some ⟨g1,0,none⟩) (l++[x]).length c1) (l++[x])/\Bl w wn:=by
 refine⟨?_,hbel.grown hgrow hbel.size (fun q hq=>(hr.own q hq).1)⟩;have:=F6 rfl hown;rw[List.length_append,List.length_singleton];exact this
theorem PU(a:Option Addr)(c:Nat)(all:List St)(w:World)(hle:all.length<=1000)(hok:∀s∈all,Ev s)(hr:Q1 w a all):Calls prog 38 #[.slice a all.length c] w fun e w'=>∃g c1,e=.returned (.slice (some ⟨g,0,none⟩) (Ah all 4096).length c1)/\A8 AA w' w.heap.size (.slice (some ⟨g,0,none⟩) (Ah all 4096).length c1) (Ah all 4096)/\Bl w w':=by
 obtain⟨i0,hi,hz0,hz1,hz2⟩:=info_parts Pf;have HP:Hid (∀(k:Nat) wX,k<4096->Bl w wX->Calls prog 104 #[.slice a all.length c,.int .i64 (k:Int)] wX (AM wX (Rz (Bt all (k:Nat))))):=A6 fun k wX hk hX=>Oo a c all (k:Nat) wX hle hok (by omega) (by omega) (hr.below hX)
 have HW:Hid (∀k,k<=4096->(Ah all k).length<=k/\∀e∈Ah all k,Y8 k e):=A6 fun k hk=>Ny hok k hk
 have HS0:Hid (A8 AA (w.alloc (.cells #[] 103)) w.heap.size (.slice (some ⟨w.heap.size,0,none⟩) 0 0) []):=A6 (A8.empty AA w w.heap.size (Nat.le_refl _));clear hr hok;go_enter func38,ntmps38
 go_wp2_with fail
 go_loopw [3,4] (fun vv pv wr=>∃(k:Nat) (L:List AE) (gv cv:Nat),k<=4096/\pv=.int .i64 (k:Int)/\vv=.slice (some ⟨gv,0,none⟩) L.length cv/\Hid (Ah all k=L)/\Hid (A8 AA wr w.heap.size (.slice (some ⟨gv,0,none⟩) L.length cv) L)/\Bl w wr) (fun _ pv _=>4096-(intOf pv).toNat)
 case atStart=>exact⟨0,[],w.heap.size,0,by omega,rfl,rfl,A6 rfl,HS0,AO⟩
 case round =>
  obtain⟨k,L,gv,cv,hk,rfl,rfl,HL,HRW,hb⟩:=hrel;have sr:=hb.size;have HB:=A5 hb;by_cases hlt:k<4096
  ·(have K1:(k:Int)<4096:=by omega);have hp:=HP.out k wr hlt hb;have HST:Hid (Ah all (k+1)=CQ L (Bt all (k:Nat))):=A6 (by rw[<- HL.out];rfl);have hLw:=HW.out k (by omega);rw[HL.out] at hLw;obtain⟨hLl,hLe⟩:=hLw;have HLE:=A5 hLe;unfold Rz at hp;generalize Bt all (k:Nat)=SS at *;obtain⟨B0,B1,B2,B3,B4⟩:=SS;dsimp only at hp;clear hb hLe;(go_wp2_with fail);refine hp.mono ?_;rintro e w1 ⟨rfl,hb1'⟩;have hb1:Bl w w1:=HB.out.trans (hb1'.mono sr);have s1:=hb1.size;by_cases h1:B1=1
   ·subst h1;(obtain⟨wb,hwb⟩:∃wb,wb=w1.alloc (.cells #[.int .i64 B0,.int .i64 1,.int .i64 B2,.int .i64 B3,.bool B4] 103):=⟨_,rfl⟩);(have hbb:Bl w wb:=by rw[hwb];exact hb1.alloc s1 _);(have zb:w1.heap.size<wb.heap.size:=by rw[hwb];simp);(have hrwb:A8 AA wb w.heap.size (.slice (some ⟨gv,0,none⟩) L.length cv) L:=by rw[hwb];exact(HRW.out.below hb1').below AO);have HSB:Hid (∀wX,Bl wb wX->wX.cell? ⟨w1.heap.size,0,none⟩=some (.int .i64 B0)/\wX.cell? ⟨w1.heap.size,1,none⟩=some (.int .i64 1)/\wX.cell? ⟨w1.heap.size,2,none⟩=some (.int .i64 B2)/\wX.cell? ⟨w1.heap.size,3,none⟩=some (.int .i64 B3)/\wX.cell? ⟨w1.heap.size,4,none⟩=some (.bool B4)):=A6 fun wX hX=>by
     refine⟨?_,?_,?_,?_,?_⟩;iterate 5 (exact(hX.cell (by simpa using zb)).trans (by rw[hwb];simp[go_sem]))
    have HRB:=A5 hrwb;have HBB:=A5 hbb;have HWB:=A5 hwb;have HSS:Hid (CQ L ⟨B0,1,B2,B3,B4⟩=if 0<L.length/\Bp (Cl L) ⟨B0,1,B2,B3,B4⟩=true then L.set (L.length-1) (SJ (Cl L)) else L++[⟨B0,1,B2,B3,B4⟩]):=A6 (by unfold CQ;rw[if_pos rfl]);obtain⟨x0,x1,x2,x3,x4⟩:=HSB.out wb AH;clear hb1' hb1 hwb hbb hrwb hp;by_cases hn:L.length=0
    ·obtain rfl:L=[]:=List.length_eq_zero_iff.1 hn;have HV:Hid (Ah all (k+1)=([]:List AE)++[⟨B0,1,B2,B3,B4⟩]):=A6 (by rw[HST.out,HSS.out,if_neg (by simp)]);clear HST HSS hn hLl;dsimp only[List.length_nil] at HRB;(go_upto_region 8 with fail);rw[<- HWB.out];refine wp_region_held_drew (S:=(fun wX=>wX.cell? ⟨w1.heap.size,0,none⟩=some (.int .i64 B0)/\wX.cell? ⟨w1.heap.size,1,none⟩=some (.int .i64 1)/\wX.cell? ⟨w1.heap.size,2,none⟩=some (.int .i64 B2)/\wX.cell? ⟨w1.heap.size,3,none⟩=some (.int .i64 B3)/\wX.cell? ⟨w1.heap.size,4,none⟩=some (.bool B4))) (by kernel_rfl) (HSB.out _ AH.drew) (fun hHeld=>?_);refine tk 0 ?_;refine tk 1 ?_;refine tk 2 ?_;refine sk 3 ?_;refine sk 4 ?_;refine sk 5 ?_;refine sk 6 ?_;refine sk 7 ?_;refine sk 8 ?_;refine sk 9 ?_;refine tk 10 ?_;refine AZ ?_;clear hHeld;have HRD:Hid (A8 AA (wb.alloc (.cells #[.int .i64 B0,.int .i64 1,.int .i64 B2,.int .i64 B3,.bool B4] 103)).drew w.heap.size (.slice (some ⟨gv,0,none⟩) 0 cv) []):=A6 (HRB.out.below AO.drew);have HBD:Hid (Bl w (wb.alloc (.cells #[.int .i64 B0,.int .i64 1,.int .i64 B2,.int .i64 B3,.bool B4] 103)).drew):=A6 (HBB.out.alloc HBB.out.size _).drew;(go_wp2_with (at_builtin;refine wpList_append_lies _ rfl (.tmp 46) (.tmp 48) 30 rfl w.heap.size 103 i0 _ 5 40 underlying30 hi hz0 hz1 hz2 rfl (by omega) _ _ _ rfl HRD.out ⟨_,0,none⟩ 1 1 [.int .i64 B0,.int .i64 1,.int .i64 B2,.int .i64 B3,.bool B4] rfl rfl ?c1 ?c2 (by omega) ?c3 ?c4 ?c5 _ rfl ?_));(case c1=>exact World.news_of_block (show (wb.alloc (.cells #[.int .i64 B0,.int .i64 1,.int .i64 B2,.int .i64 B3,.bool B4] 103)).drew.heap[wb.heap.size]?=_ from heap_alloc_new wb _));(case c2=>intro u hu;simp at hu;rcases hu with rfl|rfl|rfl|rfl|rfl<;>rfl);(case c3=>unfold maxLen;first|omega|(simp;done)|(simp;omega));(case c4=>first|omega|(simp;done)|(simp;omega));(case c5=>first|omega|(simp;omega));intro g7 c7 w7 hown hgrow hat hlt3;obtain⟨hr7,hb7⟩:=N6 (x:=⟨B0,1,B2,B3,B4⟩) HBD.out HRD.out hown hgrow;have HR7:=A5 hr7;have HB7:=A5 hb7;clear hown hgrow hat hlt3 hr7 hb7;(go_wp2_with fail);go_roundw;(case rel=>exact⟨k+1,([]:List AE)++[(⟨B0,1,B2,B3,B4⟩:AE)],g7,c7,by omega,by go_num,by simp,HV,HR7,HB7.out⟩);case measure=>first|(simp[intOf];done)|(simp[intOf];omega)
    ·(obtain⟨M,hM⟩:∃M,L.length=M+1:=⟨L.length-1,by omega⟩);(have EM:(L.length:Int)-1=(M:Int):=by omega);(have M0:(0:Int)<=(M:Int):=by omega);(have M1:(M:Int)<(L.length:Int):=by omega);have WM:=AR (M:Int);(have hnp:0<L.length:=by omega);(obtain⟨⟨L0,L1,L2,L3,L4⟩,hLL⟩:∃S,Cl L=S:=⟨_,rfl⟩);have hLM:AQ AA L M=⟨L0,L1,L2,L3,L4⟩:=by rw[<- hLL];unfold Cl;rw[hM];rfl
     have hLw2:=HLE.out _ (show AQ AA L M∈L by
      unfold AQ
      rw[List.getD_eq_getElem?_getD,List.getElem?_eq_getElem (by omega)]
      exact List.getElem_mem _)
     rw[hLM] at hLw2;obtain⟨v1,v2,v3,v4,v5,v6⟩:=hLw2;dsimp only at v1 v2 v3 v4 v5 v6;obtain⟨gq,hgq,hcq⟩:=Ho HRB.out;obtain⟨eg,_⟩:=hgq hnp;simp only[Option.some.injEq,Addr.mk.injEq,and_true] at eg;subst eg;(have HCL:Hid (∀wX,Bl wb wX->wX.cell? ⟨gv,M*5,none⟩=some (.int .i64 L0)/\wX.cell? ⟨gv,M*5+1,none⟩=some (.int .i64 L1)/\wX.cell? ⟨gv,M*5+2,none⟩=some (.int .i64 L2)/\wX.cell? ⟨gv,M*5+3,none⟩=some (.int .i64 L3)/\wX.cell? ⟨gv,M*5+4,none⟩=some (.bool L4)):=A6 fun wX hX=>hcq M L0 L1 L2 L3 L4 (by omega) hLM wX hX);have hjn:=fun wX=>J4 L0 L1 L2 L3 L4 B0 1 B2 B3 B4 wX v1 (by omega) v3 (by omega) (by omega) (by omega)
     have HSS2:Hid (CQ L ⟨B0,1,B2,B3,B4⟩=if Bp ⟨L0,L1,L2,L3,L4⟩ ⟨B0,1,B2,B3,B4⟩=true then L.set M ⟨L0,L1+1,L2,L3,L4⟩ else L++[⟨B0,1,B2,B3,B4⟩]):=A6 (by
      rw[HSS.out,hLL]
      have e:L.length-1=M:=by omega
      rw[e]
      unfold SJ
      by_cases hj:Bp ⟨L0,L1,L2,L3,L4⟩ ⟨B0,1,B2,B3,B4⟩=true
      ·rw[if_pos ⟨hnp,hj⟩,if_pos hj]
      ·rw[if_neg (fun h=>hj h.2),if_neg hj])
     (have HSA:Hid (∀wX,Bl wb wX->(wX.cell? ⟨w1.heap.size,0,none⟩=some (.int .i64 B0)/\wX.cell? ⟨w1.heap.size,1,none⟩=some (.int .i64 1)/\wX.cell? ⟨w1.heap.size,2,none⟩=some (.int .i64 B2)/\wX.cell? ⟨w1.heap.size,3,none⟩=some (.int .i64 B3)/\wX.cell? ⟨w1.heap.size,4,none⟩=some (.bool B4))/\wX.cell? ⟨gv,M*5,none⟩=some (.int .i64 L0)/\wX.cell? ⟨gv,M*5+1,none⟩=some (.int .i64 L1)/\wX.cell? ⟨gv,M*5+2,none⟩=some (.int .i64 L2)/\wX.cell? ⟨gv,M*5+3,none⟩=some (.int .i64 L3)/\wX.cell? ⟨gv,M*5+4,none⟩=some (.bool L4)):=A6 fun wX hX=>⟨HSB.out wX hX,HCL.out wX hX⟩);generalize Bp ⟨L0,L1,L2,L3,L4⟩ ⟨B0,1,B2,B3,B4⟩=J at *;clear hn hM hLM hLL hcq hgq HSS;(go_upto_region 8 with fail);rw[<- HWB.out];refine wp_region_held_drew (S:=(fun wX=>(wX.cell? ⟨w1.heap.size,0,none⟩=some (.int .i64 B0)/\wX.cell? ⟨w1.heap.size,1,none⟩=some (.int .i64 1)/\wX.cell? ⟨w1.heap.size,2,none⟩=some (.int .i64 B2)/\wX.cell? ⟨w1.heap.size,3,none⟩=some (.int .i64 B3)/\wX.cell? ⟨w1.heap.size,4,none⟩=some (.bool B4))/\wX.cell? ⟨gv,M*5,none⟩=some (.int .i64 L0)/\wX.cell? ⟨gv,M*5+1,none⟩=some (.int .i64 L1)/\wX.cell? ⟨gv,M*5+2,none⟩=some (.int .i64 L2)/\wX.cell? ⟨gv,M*5+3,none⟩=some (.int .i64 L3)/\wX.cell? ⟨gv,M*5+4,none⟩=some (.bool L4))) (by kernel_rfl) (HSA.out _ AH.drew) (fun hHeld=>?_);refine tk 0 ?_;refine tk 1 ?_;refine tk 2 ?_;refine tk 3 ?_;refine tk 4 ?_;refine tk 5 ?_;refine tk 6 ?_;refine tk 7 ?_;refine tk 8 ?_;(refine Aj 9 fun K hK=>?_);go_simp;(go_at_call 105);refine(hjn _).mono ?_;rintro e w2 ⟨rfl,hb2⟩;have hB2:Bl wb w2:=AH.drew.trans (hb2.mono (by simp));(go_wp2_with fail);refine hK.out _ _ (HSA.out _ hB2) (fun hHeld2=>?_);clear hK K;refine tk 10 ?_;refine AZ ?_;have HR2:Hid (A8 AA w2 w.heap.size (.slice (some ⟨gv,0,none⟩) L.length cv) L):=A6 (HRB.out.below hB2);have HB2:=A5 (Ab HBB.out hB2);obtain⟨⟨y0,y1,y2,y3,y4⟩,u0,u1,u2,u3,u4⟩:=HSA.out w2 hB2;have s2:=HB2.out.size;clear hHeld hHeld2 hb2 hB2 x0 x1 x2 x3 x4;cases J
     ·have HV:Hid (Ah all (k+1)=L++[⟨B0,1,B2,B3,B4⟩]):=A6 (by rw[HST.out,HSS2.out];rfl);clear HST HSS2;have HRD:Hid (A8 AA (w2.alloc (.cells #[.int .i64 B0,.int .i64 1,.int .i64 B2,.int .i64 B3,.bool B4] 103)) w.heap.size (.slice (some ⟨gv,0,none⟩) L.length cv) L):=A6 (HR2.out.below AO);have HBD:Hid (Bl w (w2.alloc (.cells #[.int .i64 B0,.int .i64 1,.int .i64 B2,.int .i64 B3,.bool B4] 103))):=A6 (HB2.out.alloc s2 _);(go_wp2_with (at_builtin;refine wpList_append_lies _ rfl (.tmp 46) (.tmp 48) 30 rfl w.heap.size 103 i0 _ 5 40 underlying30 hi hz0 hz1 hz2 rfl (by omega) _ _ _ rfl HRD.out ⟨_,0,none⟩ 1 1 [.int .i64 B0,.int .i64 1,.int .i64 B2,.int .i64 B3,.bool B4] rfl rfl ?c1 ?c2 (by omega) ?c3 ?c4 ?c5 _ rfl ?_));(case c1=>exact World.news_of_block (heap_alloc_new _ (.cells #[.int .i64 B0,.int .i64 1,.int .i64 B2,.int .i64 B3,.bool B4] 103)));(case c2=>intro u hu;simp at hu;rcases hu with rfl|rfl|rfl|rfl|rfl<;>rfl);(case c3=>unfold maxLen;first|omega|(simp;done)|(simp;omega));(case c4=>first|omega|(simp;done)|(simp;omega));(case c5=>first|omega|(simp;omega));intro g7 c7 w7 hown hgrow hat hlt3;obtain⟨hr7,hb7⟩:=N6 (x:=⟨B0,1,B2,B3,B4⟩) HBD.out HRD.out hown hgrow;have HR7:=A5 hr7;have HB7:=A5 hb7;clear hown hgrow hat hlt3 hr7 hb7;(go_wp2_with fail);go_roundw;(case rel=>exact⟨k+1,L++[(⟨B0,1,B2,B3,B4⟩:AE)],g7,c7,by omega,by go_num,by simp,HV,HR7,HB7.out⟩);case measure=>first|(simp[intOf];done)|(simp[intOf];omega)
     ·have HV:Hid (Ah all (k+1)=L.set M ⟨L0,L1+1,L2,L3,L4⟩):=A6 (by rw[HST.out,HSS2.out];rfl);clear HST HSS2;have HFZ:Hid (∀j,w2.frozen? ⟨gv,j,none⟩=false):=A6 fun j=>by
       obtain⟨aa,cc,ee,hf⟩:=HR2.out.form;obtain⟨g',N,f,e2,_,hrr,_⟩:=hf hnp;simp only[Value.slice.injEq] at ee;rw[e2] at ee;simp only[Option.some.injEq,Addr.mk.injEq,and_true] at ee;rw[ee.1];exact hrr.frozen j
      have z0:=HFZ.out (M*5);have zz1:=HFZ.out (M*5+1);have z2:=HFZ.out (M*5+2);have z3:=HFZ.out (M*5+3);have z4:=HFZ.out (M*5+4);have g2:=(HR2.out.own gv rfl).2;have gz2:=(HR2.out.own gv rfl).1
      have HF:Hid (A8 AA ((((((w2.setCell ⟨gv,M*5,none⟩ (.int .i64 L0)).setCell ⟨gv,M*5+1,none⟩ (.int .i64 (L1+1))).setCell ⟨gv,M*5+2,none⟩ (.int .i64 L2)).setCell ⟨gv,M*5+3,none⟩ (.int .i64 L3)).setCell ⟨gv,M*5+4,none⟩ (.bool L4)).alloc (.cells #[.int .i64 L0,.int .i64 (L1+1),.int .i64 L2,.int .i64 L3,.bool L4] 103)) w.heap.size (.slice (some ⟨gv,0,none⟩) (L.set M ⟨L0,L1+1,L2,L3,L4⟩).length cv) (L.set M ⟨L0,L1+1,L2,L3,L4⟩)):=A6 (by
       rw[List.length_set]
       exact(M6 HR2.out (by omega)).below AO)
      have HFB:Hid (Bl w ((((((w2.setCell ⟨gv,M*5,none⟩ (.int .i64 L0)).setCell ⟨gv,M*5+1,none⟩ (.int .i64 (L1+1))).setCell ⟨gv,M*5+2,none⟩ (.int .i64 L2)).setCell ⟨gv,M*5+3,none⟩ (.int .i64 L3)).setCell ⟨gv,M*5+4,none⟩ (.bool L4)).alloc (.cells #[.int .i64 L0,.int .i64 (L1+1),.int .i64 L2,.int .i64 L3,.bool L4] 103))):=A6 ((((((HB2.out.setCell gz2 _).setCell gz2 _).setCell gz2 _).setCell gz2 _).setCell gz2 _).alloc (by simp;omega) _);(go_wp2_with fail);go_roundw;(case rel=>exact⟨k+1,L.set M ⟨L0,L1+1,L2,L3,L4⟩,gv,cv,by omega,by go_num,by simp,HV,HF,HFB.out⟩);case measure=>first|(simp[intOf];done)|(simp[intOf];omega)
   ·(have h1b:(B1==1)=false:=by simpa using h1);have HV:Hid (Ah all (k+1)=L):=A6 (by rw[HST.out];unfold CQ;rw[if_neg h1]);have HB1:Hid (Bl w (w1.alloc (.cells #[.int .i64 B0,.int .i64 B1,.int .i64 B2,.int .i64 B3,.bool B4] 103))):=A6 (hb1.alloc s1 _);have HR1:Hid (A8 AA (w1.alloc (.cells #[.int .i64 B0,.int .i64 B1,.int .i64 B2,.int .i64 B3,.bool B4] 103)) w.heap.size (.slice (some ⟨gv,0,none⟩) L.length cv) L):=A6 ((HRW.out.below hb1').below AO);clear hb1' hb1 hp;(go_wp2_with fail);go_roundw;(case rel=>exact⟨k+1,L,gv,cv,by omega,by go_num,rfl,HV,HR1,HB1.out⟩);case measure=>first|(simp[intOf];done)|(simp[intOf];omega)
  ·(have ek:k=4096:=by omega);have HV:Hid (Ah all 4096=L):=A6 (by rw[<- ek];exact HL.out);(have K1:¬(k:Int)<4096:=by omega);clear hb ek;(go_wp2_with fail);rw[HV.out];go_ret;exact⟨gv,cv,rfl,HRW.out,HB.out⟩
end
end Go.Proofs.YtnmhkgmmpkjjeaaGreat
