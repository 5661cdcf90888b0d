import Derived.Test.YtnmhkgmmpkjjeaaGreatM45
namespace Go.Proofs.YtnmhkgmmpkjjeaaGreat
open ChangeShapes WideShapes ChangeAt RowKit Proofs.Tryz
set_option linter.all false
set_option maxRecDepth 100000
set_option maxHeartbeats 8000000
attribute [local go_sem ↓] wp_at_zero wp_at_succ
theorem Sy(g c b b0:Nat)(zs:List Int)(w:World)(hz:Cu zs)(hb0:b0<=w.heap.size)(hr:A8 AY w b (.slice (some ⟨g,0,none⟩) zs.length c) zs):Calls prog 43 #[.agg #[.slice (some ⟨g,0,none⟩) zs.length c,.slice none 0 0,.slice none 0 0,.slice none 0 0]] w fun e w'=>∃(gu g1 c1 g2 c2:Nat) (a3:Option Addr) (c3:Nat),e=.returned (.pointer (some ⟨gu,0,none⟩))/\XU w' gu b0 ⟨zs,zs,0⟩ g1 c1 g2 c2 a3 c3 []/\Bl w w':=by
 have hn:=Bz zs.length hz.n0;have hn2:=Dv zs.length;have hz0:0<zs.length:=by omega
 obtain⟨wb,hwb⟩:∃wb,wb=w.alloc (.cells #[.slice (some ⟨g,0,none⟩) zs.length c,.slice none 0 0,.slice none 0 0,.slice none 0 0] 46):=⟨_,rfl⟩
 have hbb:Bl w wb:=by rw[hwb];exact AO
 have hzb:w.heap.size<wb.heap.size:=by rw[hwb];simp
 have HBX:Hid (∀wX,Bl wb wX->wX.cell? ⟨w.heap.size,0,none⟩=some (.slice (some ⟨g,0,none⟩) zs.length c)/\wX.cell? ⟨w.heap.size,1,none⟩=some (.slice none 0 0)):=A6 fun wX hX=>⟨(hX.cell (p:=⟨w.heap.size,0,none⟩) hzb).trans (by rw[hwb];simp[go_sem]),(hX.cell (p:=⟨w.heap.size,1,none⟩) hzb).trans (by rw[hwb];simp[go_sem])⟩
 have HB2:Hid (∀wX,Bl wb wX->wX.cell? ⟨w.heap.size,1,none⟩=some (.slice none 0 0)/\wX.cell? ⟨w.heap.size,2,none⟩=some (.slice none 0 0)/\wX.cell? ⟨w.heap.size,3,none⟩=some (.slice none 0 0)):=A6 fun wX hX=>⟨(HBX.out wX hX).2,(hX.cell (p:=⟨w.heap.size,2,none⟩) hzb).trans (by rw[hwb];simp[go_sem]),(hX.cell (p:=⟨w.heap.size,3,none⟩) hzb).trans (by rw[hwb];simp[go_sem])⟩
 have HCW:Hid (∀wX,Bl wb wX->Calls prog 112 #[.slice (some ⟨g,0,none⟩) zs.length c] wX fun r w'=>∃a' c',r=.returned (.slice a' zs.length c')/\A8 AY w' wX.heap.size (.slice a' zs.length c') zs/\Bl wX w'):=A6 fun wX hX=>Qx _ c b zs wX (by omega) (hr.below (hbb.trans (hX.mono (Nat.le_of_lt hzb))))
 have HCP:Hid (∀wX,Calls prog 113 #[.slice none 0 0] wX fun r w'=>∃a' c',r=.returned (.slice a' 0 c')/\A8 Cz w' wX.heap.size (.slice a' 0 c') []/\Bl wX w'):=A6 fun wX=>RA none 0 0 [] wX (by simp) ⟨by simp[AK],.inl ⟨rfl,rfl⟩⟩
 obtain⟨wD,hwD⟩:∃x,x=wb.drew:=⟨_,rfl⟩
 have hbD:Bl wb wD:=by rw[hwD];exact AH.drew
 obtain⟨x0,x1⟩:=HBX.out wb AH;have HWB:=A5 hwb;have HWD:=A5 hwD;have HBD:=A5 hbD;have HBB:=A5 hbb;clear hwb hbb hwD hbD hr hz;go_enter func43,ntmps43
 go_upto_region 1 with fail
 rw[<- HWB.out];refine wp_region_held_drew (S:=fun wX=>wX.cell? ⟨w.heap.size,0,none⟩=some (.slice (some ⟨g,0,none⟩) zs.length c)/\wX.cell? ⟨w.heap.size,1,none⟩=some (.slice none 0 0)) (by kernel_rfl) ⟨x0,x1⟩ (fun hHeld=>?_);rw[<- HWD.out] at hHeld ⊢;refine tk 0 ?_;refine tk 1 ?_;refine tk 2 ?_;refine tk 5 ?_;refine tk 6 ?_;refine tk 7 ?_;refine tk 10 ?_;refine tk 11 ?_;refine Aj 3 fun K hK=>?_
 go_simp;refine(HCW.out wD HBD.out).mono ?_;rintro e w1 ⟨a1,c1,rfl,hr1,hb1⟩;obtain⟨g1,rfl,_,_,_⟩:=Ly hr1 hz0;have HB1:=A5 (Ab HBD.out hb1);have HR1:=A5 hr1;clear hr1 hb1;go_wp2_with fail
 refine hK.out _ _ (HBX.out w1 HB1.out) (fun hHeld2=>?_);clear hK K;refine tk 4 ?_;refine Aj 8 fun K hK=>?_
 go_simp;refine(HCW.out w1 HB1.out).mono ?_;rintro e w2 ⟨a2,c2,rfl,hr2,hb2⟩;obtain⟨g2,rfl,_,_,_⟩:=Ly hr2 hz0;have HB12:=A5 hb2;have HBw2:=A5 (Ab HB1.out hb2);have HR2:=A5 hr2;clear hr2 hb2;go_wp2_with fail
 refine hK.out _ _ (HBX.out w2 HBw2.out) (fun hHeld3=>?_);clear hK K;refine tk 9 ?_;refine Aj 12 fun K hK=>?_
 go_simp;refine(HCP.out w2).mono ?_;rintro e w3 ⟨a3,c3,rfl,hr3,hb3⟩;have HBw3:=A5 (Ab HBw2.out hb3);obtain⟨wU,hwU⟩:∃wU,wU=w3.alloc (.cells #[.slice (some ⟨g1,0,none⟩) zs.length c1,.slice (some ⟨g2,0,none⟩) zs.length c2,.slice a3 0 c3,.slice none 0 0,.slice none 0 0] 171):=⟨_,rfl⟩
 have hbU:Bl w3 wU:=by rw[hwU];exact AO
 have hzU:w3.heap.size<wU.heap.size:=by rw[hwU];simp
 have HBwU:=A5 (Ab HBw3.out hbU)
 have HXU:Hid (XU wU w3.heap.size b0 ⟨zs,zs,0⟩ g1 c1 g2 c2 a3 c3 []):=A6 (by
  have s1:=HBD.out.size
  have o1:=HR1.out.own g1 rfl
  have o2:=HR2.out.own g2 rfl
  have s2:=HB1.out.size
  have s3:=hb3.size
  have s4:=HB12.out.size
  refine⟨by omega,hzU,?_,?_,?_,?_,?_,fun i=>?_,?_,?_,?_,rfl,rfl,by omega,by omega,by omega,fun k hk=>?_⟩
  ·rw[hwU];simp[go_sem]
  ·rw[hwU];simp[go_sem]
  ·rw[hwU];simp[go_sem]
  ·rw[hwU];simp[go_sem]
  ·rw[hwU];simp[go_sem]
  ·rw[hwU];simp[go_sem]
  ·exact((((HR1.out.below HB12.out).below hb3).below hbU)).rebase (by omega)
  ·exact((HR2.out.below hb3).below hbU).rebase (by omega)
  ·exact(hr3.below hbU).rebase (by omega)
  ·have:=hr3.ownA k hk
   omega)
 have HWU:=A5 hwU;clear hr3 hb3 hbU hwU;go_wp2_with fail
 refine hK.out _ _ (HBX.out w3 HBw3.out) (fun hHeld4=>?_);clear hK K;refine tk 13 ?_;refine Aj 14 fun K hK=>?_
 go_simp;rw[<- HWU.out];refine hK.out _ _ (HBX.out wU HBwU.out) (fun hHeld5=>?_);clear hK K;refine tk 15 ?_;refine AZ ?_;clear hHeld hHeld2 hHeld3 hHeld4 hHeld5 x0 x1;obtain⟨y1,y2,y3⟩:=HB2.out wU HBwU.out;go_wp2_with fail
 go_loopw [30] (fun i wr=>i=.int .i64 0/\wr=wU) (fun _ _=>0)
 case atStart=>exact⟨rfl,rfl⟩
 case round =>
  obtain⟨rfl,rfl⟩:=hrel;go_wp2_with fail
  go_loopw [48] (fun i wr'=>i=.int .i64 0/\wr'=wr) (fun _ _=>0)
  case atStart=>exact⟨rfl,rfl⟩
  case round =>
   obtain⟨rfl,rfl⟩:=hrel;(go_wp2_with fail);(go_loopw [78] (fun i wr'=>i=.int .i64 0/\wr'=wr) (fun _ _=>0));(case atStart=>exact⟨rfl,rfl⟩);case round =>
    obtain⟨rfl,rfl⟩:=hrel;(go_wp2_with fail);go_ret;exact⟨_,g1,c1,g2,c2,a3,c3,rfl,HXU.out,Ab HBB.out HBwU.out⟩
theorem Q8(gu b0:Nat)(s:YS)(g1 c1 g2 c2:Nat)(a3:Option Addr)(c3:Nat)(P:List BS)(w:World)(h:XU w gu b0 s g1 c1 g2 c2 a3 c3 P):Calls prog 46 #[.pointer (some ⟨gu,0,none⟩)] w (AM w (.agg #[.slice (some ⟨g1,0,none⟩) s.m.length c1,.slice a3 P.length c3,.slice none 0 0,.slice none 0 0])):=by
 obtain⟨wb,hwb⟩:∃wb,wb=w.alloc (.cells #[.slice none 0 0,.slice none 0 0,.slice none 0 0,.slice none 0 0] 46):=⟨_,rfl⟩
 have hbb:Bl w wb:=by rw[hwb];exact AO
 have hzb:w.heap.size<wb.heap.size:=by rw[hwb];simp
 have HU:Hid (∀wX,Bl w wX->XU wX gu b0 s g1 c1 g2 c2 a3 c3 P):=A6 fun wX hX=>h.below hX
 obtain⟨wM,hwM⟩:∃x,x=(wb.alloc (.cells #[.slice (some ⟨g1,0,none⟩) s.m.length c1,.slice a3 P.length c3,.slice none 0 0,.slice none 0 0] 46)).drew:=⟨_,rfl⟩
 have hbM:Bl wb wM:=by rw[hwM];exact AO.drew
 have hzM:wb.heap.size<wM.heap.size:=by rw[hwM];simp
 have u0:=HU.out wb hbb;have x0:=u0.q0;have x2:=u0.q2;have uM:=HU.out wM (hbb.trans (hbM.mono (Nat.le_of_lt hzb)));have y0:=uM.q0;have y2:=uM.q2;have y3:=uM.q3;have y4:=uM.q4;have m:∀i,wM.cell? ⟨wb.heap.size,i,none⟩=(#[.slice (some ⟨g1,0,none⟩) s.m.length c1,.slice a3 P.length c3,.slice none 0 0,.slice none 0 0]:Array Value)[i]?:=fun i=>by rw[hwM];simp[go_sem]
 have m0:=m 0;have m1:=m 1;have m2:=m 2;have m3:=m 3;simp at m0 m1 m2 m3;have n:∀i,i<4->wM.cell? ⟨w.heap.size,i,none⟩=some (.slice none 0 0):=fun i hi=>(hbM.cell (p:=⟨w.heap.size,i,none⟩) hzb).trans (by rw[hwb];rcases(by omega:i=0\/i=1\/i=2\/i=3) with rfl|rfl|rfl|rfl<;>simp[go_sem])
 have n0:=n 0 (by omega);have n1:=n 1 (by omega);have n2:=n 2 (by omega);have n3:=n 3 (by omega);have fM:∀i,wM.frozen? ⟨w.heap.size,i,none⟩=false:=fun i=>(hbM.frozen (p:=⟨w.heap.size,i,none⟩) hzb).trans (by rw[hwb];simp[go_sem])
 have HS:Hid (∀wX,Bl wb wX->wX.cell? ⟨gu,0,none⟩=some (.slice (some ⟨g1,0,none⟩) s.m.length c1)/\wX.cell? ⟨gu,2,none⟩=some (.slice a3 P.length c3)):=A6 fun wX hX=>by
  have u:=HU.out wX (hbb.trans (hX.mono (Nat.le_of_lt hzb)));exact⟨u.q0,u.q2⟩
 have HWB:=A5 hwb;have HWM:=A5 hwM;have HBM:=A5 hbM;obtain⟨wF,hwF⟩:∃wF,wF=((((wM.setCell ⟨w.heap.size,0,none⟩ (.slice (some ⟨g1,0,none⟩) s.m.length c1)).setCell ⟨w.heap.size,1,none⟩ (.slice a3 P.length c3)).setCell ⟨w.heap.size,2,none⟩ (.slice none 0 0)).setCell ⟨w.heap.size,3,none⟩ (.slice none 0 0)):=⟨_,rfl⟩
 obtain⟨k0,k1,k2,k3⟩:=Zj hwF n0 n1 n2 n3;have HWF:=A5 hwF;have f0:=fM 0;have f1:=fM 1;have f2:=fM 2;have f3:=fM 3;have HBF:Hid (∀v0 v1 v2 v3:Value,Bl w ((((wM.setCell ⟨w.heap.size,0,none⟩ v0).setCell ⟨w.heap.size,1,none⟩ v1).setCell ⟨w.heap.size,2,none⟩ v2).setCell ⟨w.heap.size,3,none⟩ v3)):=A6 fun v0 v1 v2 v3=>((((hbb.trans (hbM.mono (Nat.le_of_lt hzb))).setCell (Nat.le_refl _) _).setCell (Nat.le_refl _) _).setCell (Nat.le_refl _) _).setCell (Nat.le_refl _) _
 clear hwb hbb hwM hbM u0 uM m n h;go_enter func46,ntmps46
 go_wp2_with fail
 rw[<- HWB.out];refine wp_region_held_drew (S:=fun wX=>wX.cell? ⟨gu,0,none⟩=some (.slice (some ⟨g1,0,none⟩) s.m.length c1)/\wX.cell? ⟨gu,2,none⟩=some (.slice a3 P.length c3)) (by kernel_rfl) ⟨x0,x2⟩ (fun hHeld=>?_);refine tk 0 ?_;refine tk 1 ?_;refine tk 2 ?_;refine tk 3 ?_;refine tk 4 ?_;refine tk 5 ?_;refine tk 6 ?_;refine tk 7 ?_;refine tk 8 ?_;refine Aj 9 fun K hK=>?_
 go_simp;refine hK.out _ _ (HS.out _ (AH.drew.alloc (by simp) _)) (fun hHeld2=>?_);clear hK K;refine Aj 10 fun K hK=>?_
 go_simp;rw[<- HWM.out];refine hK.out _ _ (HS.out wM HBM.out) (fun hHeld3=>?_);clear hK K;refine AZ ?_;clear hHeld hHeld2 hHeld3 x0 x2;go_wp2_with fail
 go_loopw [22] (fun i wr=>i=.int .i64 0/\wr=wM) (fun _ _=>0)
 case atStart=>exact⟨rfl,rfl⟩
 case round =>
  obtain⟨rfl,rfl⟩:=hrel;go_wp2_with fail
  go_loopw [51] (fun i wr'=>i=.int .i64 0/\wr'=wr) (fun _ _=>0)
  case atStart=>exact⟨rfl,rfl⟩
  case round =>
   obtain⟨rfl,rfl⟩:=hrel;(go_wp2_with fail);rw[<- HWF.out];exact bodyPost_ret (v:=.agg #[.slice (some ⟨g1,0,none⟩) s.m.length c1,.slice a3 P.length c3,.slice none 0 0,.slice none 0 0]) (by simp[results,results46,go_sem,k0,k1,k2,k3]) rfl ⟨rfl,by rw[HWF.out];exact HBF.out _ _ _ _⟩
theorem QU(g c:Nat)(zs:List Int)(w:World)(hz:Cu zs):Calls prog 41 #[.agg #[.slice (some ⟨g,0,none⟩) zs.length c,.slice none 0 0,.slice none 0 0,.slice none 0 0]] w (AM w (.bool true)):=by
 obtain⟨wb,hwb⟩:∃wb,wb=w.alloc (.cells #[.slice (some ⟨g,0,none⟩) zs.length c,.slice none 0 0,.slice none 0 0,.slice none 0 0] 46):=⟨_,rfl⟩
 have hbb:Bl w wb:=by rw[hwb];exact AO
 have hzb:w.heap.size<wb.heap.size:=by rw[hwb];simp
 have hn2:=Dv zs.length;have hn:=Bz zs.length hz.n0;have t1:=Ji (some ⟨g,0,none⟩) zs.length c (by omega) wb;rw[decide_eq_false hz.n0] at t1;have HQ:Hid (∀wX,Bl wb wX->wX.cell? ⟨w.heap.size,1,none⟩=some (.slice none 0 0)/\wX.cell? ⟨w.heap.size,2,none⟩=some (.slice none 0 0)/\wX.cell? ⟨w.heap.size,3,none⟩=some (.slice none 0 0)):=A6 fun wX hX=>by
  refine⟨(hX.cell (p:=⟨w.heap.size,1,none⟩) hzb).trans ?_,(hX.cell (p:=⟨w.heap.size,2,none⟩) hzb).trans ?_,(hX.cell (p:=⟨w.heap.size,3,none⟩) hzb).trans ?_⟩<;>(rw[hwb];simp[go_sem])
 have HWB:=A5 hwb;have HBB:=A5 hbb;clear hwb hbb hz;go_enter func41,ntmps41
 go_wp2_with fail
 rw[<- HWB.out];refine t1.mono ?_;rintro e w1 ⟨rfl,hb1⟩;obtain⟨y1,y2,y3⟩:=HQ.out w1 hb1;have HB1:=A5 (Ab HBB.out hb1);clear t1 hb1;go_wp2_with fail
 go_loopw [34] (fun i wr=>i=.int .i64 0/\wr=w1) (fun _ _=>0)
 case atStart=>exact⟨rfl,rfl⟩
 case round =>
  obtain⟨rfl,rfl⟩:=hrel;go_wp2_with fail
  go_loopw [54] (fun i wr'=>i=.int .i64 0/\wr'=wr) (fun _ _=>0)
  case atStart=>exact⟨rfl,rfl⟩
  case round =>
   obtain⟨rfl,rfl⟩:=hrel;(go_wp2_with fail);(go_loopw [65] (fun i wr'=>i=.int .i64 0/\wr'=wr) (fun _ _=>0));(case atStart=>exact⟨rfl,rfl⟩);case round =>
    obtain⟨rfl,rfl⟩:=hrel;(go_wp2_with fail);go_ret;exact⟨rfl,HB1.out⟩
theorem P9(a:Option Addr)(c:Nat)(w:World):Calls prog 42 #[.slice a 0 c] w fun e w'=>e=.returned (.bool true)/\w'=w:=by
 go_enter func42,ntmps42
 go_wp2_with fail
 go_loopw [10] (fun i wr=>i=.int .i64 0/\wr=w) (fun _ _=>0)
 case atStart=>exact⟨rfl,rfl⟩
 case round =>
  obtain⟨rfl,rfl⟩:=hrel;go_wp2_with fail
  go_ret;exact⟨rfl,rfl⟩
theorem Su(x:Value)(a:Option Addr)(c:Nat)(w:World):Calls prog 44 #[x,.slice a 0 c] w fun e w'=>e=.returned (.tuple #[])/\w'=w:=by
 go_enter func44,ntmps44
 go_wp2_with fail
 go_loopw [8] (fun i wr=>i=.int .i64 0/\wr=w) (fun _ _=>0)
 case atStart=>exact⟨rfl,rfl⟩
 case round =>
  obtain⟨rfl,rfl⟩:=hrel;go_wp2_with fail
  exact bodyPost_end (v:=.tuple #[]) (by simp[results,results44,go_sem]) rfl ⟨rfl,rfl⟩
def OM (w:World) (M:List Int) (n:Nat) (e:Ending) (w':World):Prop :=
 ∃(g1 c1:Nat) (a3:Option Addr) (k c3:Nat),e=.returned (.agg #[.int .i64 0,.int .i64 (n:Int),.slice (some ⟨g1,0,none⟩) M.length c1,.slice a3 k c3,.slice none 0 0,.slice none 0 0,.slice none 0 0])/\A8 AY w' w.heap.size (.slice (some ⟨g1,0,none⟩) M.length c1) M/\Bl w w'
theorem SV(g c b bo:Nat)(zs:List Int)(ao:Option Addr)(co:Nat)(l:List BP)(ae:Option Addr)(ce:Nat)(w:World)(hz:Cu zs)(hr:A8 AY w b (.slice (some ⟨g,0,none⟩) zs.length c) zs)(hll:l.length<=20000)(hops:A8 BW w bo (.slice ao l.length co) l)(hst:∀b0 gu g1 c1 g2 c2 i,i<l.length->∀wX a3' c3' P',XU wX gu b0 (Do ⟨zs,zs,0⟩ (l.take i)) g1 c1 g2 c2 a3' c3' P'->Calls prog 172 #[.pointer (some ⟨gu,0,none⟩),.agg #[.int .i64 (AQ BW l i).kind,.int .i64 (AQ BW l i).a,.int .i64 (AQ BW l i).b,.int .u64 (AQ BW l i).word]] wX fun e w'=>e=.returned (.int .i64 0)/\I3 wX w' gu b0 (Cq (Do ⟨zs,zs,0⟩ (l.take i)) (AQ BW l i)) g1 c1 g2 c2 a3'):Calls prog 14 #[.agg #[.slice (some ⟨g,0,none⟩) zs.length c,.slice none 0 0,.slice none 0 0,.slice none 0 0],.slice ao l.length co,.slice ae 0 ce] w fun e w'=>OM w (Do ⟨zs,zs,0⟩ l).m l.length e w':=by
 obtain⟨wa,hwa⟩:∃wa,wa=w.alloc (.cells #[.slice (some ⟨g,0,none⟩) zs.length c,.slice none 0 0,.slice none 0 0,.slice none 0 0] 46):=⟨_,rfl⟩
 obtain⟨wb,hwb⟩:∃wb,wb=wa.alloc (.cells #[.int .i64 0,.int .i64 0,.slice none 0 0,.slice none 0 0,.slice none 0 0,.slice none 0 0,.slice none 0 0] 49):=⟨_,rfl⟩
 have hba:Bl w wa:=by rw[hwa];exact AO
 have hza:wa.heap.size=w.heap.size+1:=by rw[hwa];simp
 have hab:Bl wa wb:=by rw[hwb];exact AO
 have hzb:wb.heap.size=w.heap.size+2:=by rw[hwb];simp;omega
 have hbb:Bl w wb:=hba.trans (hab.mono (by omega));have HBX:Hid (∀wX,Bl wb wX->wX.cell? ⟨w.heap.size,0,none⟩=some (.slice (some ⟨g,0,none⟩) zs.length c)/\wX.cell? ⟨w.heap.size,1,none⟩=some (.slice none 0 0)/\wX.cell? ⟨w.heap.size,2,none⟩=some (.slice none 0 0)/\wX.cell? ⟨w.heap.size,3,none⟩=some (.slice none 0 0)):=A6 fun wX hX=>by
  have e:∀i,wb.cell? ⟨w.heap.size,i,none⟩=wa.cell? ⟨w.heap.size,i,none⟩:=fun i=>hab.cell (p:=⟨w.heap.size,i,none⟩) (by show w.heap.size<_;omega)
  refine⟨(hX.cell (p:=⟨w.heap.size,0,none⟩) (by show w.heap.size<_;omega)).trans ?_,(hX.cell (p:=⟨w.heap.size,1,none⟩) (by show w.heap.size<_;omega)).trans ?_,(hX.cell (p:=⟨w.heap.size,2,none⟩) (by show w.heap.size<_;omega)).trans ?_,(hX.cell (p:=⟨w.heap.size,3,none⟩) (by show w.heap.size<_;omega)).trans ?_⟩<;>(rw[e,hwa];simp[go_sem])
 have HV:Hid (∀wX,Calls prog 41 #[.agg #[.slice (some ⟨g,0,none⟩) zs.length c,.slice none 0 0,.slice none 0 0,.slice none 0 0]] wX (AM wX (.bool true))):=A6 fun wX=>QU g c zs wX hz
 have HO:Hid (∀wX,Bl wb wX->Calls prog 43 #[.agg #[.slice (some ⟨g,0,none⟩) zs.length c,.slice none 0 0,.slice none 0 0,.slice none 0 0]] wX fun e w'=>∃(gu g1 c1 g2 c2:Nat) (a3:Option Addr) (c3:Nat),e=.returned (.pointer (some ⟨gu,0,none⟩))/\XU w' gu wb.heap.size ⟨zs,zs,0⟩ g1 c1 g2 c2 a3 c3 []/\Bl wX w'):=A6 fun wX hX=>Sy g c b wb.heap.size zs wX hz hX.size (hr.below (Ab hbb hX))
 have HF:Hid (∀gx gu g1 c1 g2 c2 a3 c3 P wX,wb.heap.size<=gx->XR wb wX gx gu wb.heap.size ao co l ⟨zs,zs,0⟩ g1 c1 g2 c2 0 a3 c3 P->Calls prog 45 #[.pointer (some ⟨gx,0,none⟩)] wX fun e w'=>e=.returned (.tuple #[])/\∃a3' c3' P',XR wb w' gx gu wb.heap.size ao co l ⟨zs,zs,0⟩ g1 c1 g2 c2 l.length a3' c3' P'):=A6 fun gx gu g1 c1 g2 c2 a3 c3 P wX h1 h2=>PE wb gx gu wb.heap.size bo ao co l ⟨zs,zs,0⟩ g1 c1 g2 c2 a3 c3 P wX rfl hll h1 (hst _ gu g1 c1 g2 c2) (hops.below hbb) h2
 obtain⟨x0,x1,x2,x3⟩:=HBX.out wb AH;have K1:¬(20000:Int)<(l.length:Int):=by omega
 have HWA:=A5 hwa;have HWB:=A5 hwb;have HBB:=A5 hbb;have HZB:=A5 hzb;have sc:=P9 ae ce;have pl:=Su;have HRES:Hid (∀wX:World,wX.heap[w.heap.size+1]?=wb.heap[w.heap.size+1]?->(∀i,wX.frozen? ⟨w.heap.size+1,i,none⟩=false)/\wX.cell? ⟨w.heap.size+1,0,none⟩=some (.int .i64 0)/\wX.cell? ⟨w.heap.size+1,1,none⟩=some (.int .i64 0)/\wX.cell? ⟨w.heap.size+1,2,none⟩=some (.slice none 0 0)/\wX.cell? ⟨w.heap.size+1,3,none⟩=some (.slice none 0 0)/\wX.cell? ⟨w.heap.size+1,4,none⟩=some (.slice none 0 0)/\wX.cell? ⟨w.heap.size+1,5,none⟩=some (.slice none 0 0)/\wX.cell? ⟨w.heap.size+1,6,none⟩=some (.slice none 0 0)):=A6 fun wX hX=>by
  have c:∀i,wX.cell? ⟨w.heap.size+1,i,none⟩=wb.cell? ⟨w.heap.size+1,i,none⟩:=fun i=>World.cell?_of_block hX
  refine⟨fun i=>(World.frozen?_of_block (a:=⟨w.heap.size+1,i,none⟩) hX).trans ?_,(c 0).trans ?_,(c 1).trans ?_,(c 2).trans ?_,(c 3).trans ?_,(c 4).trans ?_,(c 5).trans ?_,(c 6).trans ?_⟩<;>(rw[hwb,<- hza];simp[go_sem])
 clear hwa hwb hba hab hbb hst hops hr hz;obtain⟨M,hM⟩:∃M,(Do ⟨zs,zs,0⟩ l).m=M:=⟨_,rfl⟩
 rw[hM];have HMM:=A5 hM;clear hM;go_enter func14,ntmps14
 go_wp2_with fail
 rw[<- HWA.out,<- HWB.out];refine(HV.out wb).mono ?_;rintro e w1 ⟨rfl,hb1⟩;have HB1:=A5 hb1;obtain⟨y0,y1,y2,y3⟩:=HBX.out w1 hb1;clear hb1 x0 x1 x2 x3;go_wp2_with fail
 refine(sc w1).mono ?_;rintro e wq ⟨rfl,hq⟩;obtain rfl:=hq.symm;go_wp2_with fail
 refine(HO.out w1 HB1.out).mono ?_;rintro e w2 ⟨gu,g1,c1,g2,c2,a3,c3,rfl,hu2,hb2⟩;obtain⟨w3,hw3⟩:∃x,x=w2.alloc (.cells #[.pointer (some ⟨gu,0,none⟩),.slice ao l.length co,.int .i64 0,.int .i64 0,.slice none 0 0] 109):=⟨_,rfl⟩
 have hb3:Bl w2 w3:=by rw[hw3];exact AO
 have hz3:w2.heap.size<w3.heap.size:=by rw[hw3];simp
 have s1:=HB1.out.size;have s2:=hb2.size;have HB13:=A5 (Ab hb2 hb3)
 have HXR:Hid (XR wb w3 w2.heap.size gu wb.heap.size ao co l ⟨zs,zs,0⟩ g1 c1 g2 c2 0 a3 c3 []):=A6 (by
  obtain⟨⟨_,l1⟩,⟨_,l2⟩,l3⟩:=hu2.g1lt
  have lu:=hu2.lt
  refine⟨by rw[List.take_zero];exact hu2.below hb3,⟨hz3,?_,?_,?_,?_,?_,fun j=>?_⟩,?_,Ab HB1.out HB13.out⟩
  ·rw[hw3];simp[go_sem]
  ·rw[hw3];simp[go_sem]
  ·rw[hw3];simp[go_sem]
  ·rw[hw3];simp[go_sem]
  ·rw[hw3];simp[go_sem]
  ·rw[hw3];simp[go_sem]
  ·rintro(e|e|e|e)
   ·omega
   ·omega
   ·omega
   ·have:=(l3 _ e).2;omega)
 have HW3:=A5 hw3;clear hu2 hb2 hb3 hw3 y0 y1 y2 y3;go_wp2_with fail
 rw[<- HW3.out];refine(pl _ _ _ w3).mono ?_;rintro e wq ⟨rfl,hq⟩;obtain rfl:=hq.symm;go_wp2_with fail
 refine(HF.out w2.heap.size gu g1 c1 g2 c2 a3 c3 [] w3 (by omega) HXR.out).mono ?_;rintro e w4 ⟨rfl,a4,c4,P4,hx4⟩;obtain⟨wD,hwD⟩:∃x,x=w4.drew:=⟨_,rfl⟩
 have hbD:Bl w4 wD:=by rw[hwD];exact AH.drew
 have HXD:Hid (XR wb wD w2.heap.size gu wb.heap.size ao co l ⟨zs,zs,0⟩ g1 c1 g2 c2 l.length a4 c4 P4):=A6 (hx4.below rfl hbD);have HSB:Hid (∀wX,Bl wD wX->wX.cell? ⟨w2.heap.size,0,none⟩=some (.pointer (some ⟨gu,0,none⟩))/\wX.cell? ⟨w2.heap.size,2,none⟩=some (.int .i64 (l.length:Int))/\wX.cell? ⟨w2.heap.size,3,none⟩=some (.int .i64 0)/\wX.cell? ⟨w2.heap.size,4,none⟩=some (.slice none 0 0)):=A6 fun wX hX=>by
  have hx:=(HXD.out.below rfl hX).x;exact⟨hx.p0,hx.p2,hx.p3,hx.p4⟩
 have t5:=Q8 gu _ _ g1 c1 g2 c2 a4 c4 P4 wD HXD.out.u;rw[List.take_length,HMM.out] at t5;have z0:=hx4.x.p0;have z2:=hx4.x.p2;have z3:=hx4.x.p3;have z4:=hx4.x.p4;have HWD:=A5 hwD;have HRM:Hid (A8 AY wD wb.heap.size (.slice (some ⟨g1,0,none⟩) M.length c1) M):=A6 (by have:=HXD.out.u.r1;rw[List.take_length,HMM.out] at this;exact this);clear hx4 hbD hwD;go_wp2_with fail
 refine wp_region_held_drew (S:=fun wX=>wX.cell? ⟨w2.heap.size,0,none⟩=some (.pointer (some ⟨gu,0,none⟩))/\wX.cell? ⟨w2.heap.size,2,none⟩=some (.int .i64 (l.length:Int))/\wX.cell? ⟨w2.heap.size,3,none⟩=some (.int .i64 0)/\wX.cell? ⟨w2.heap.size,4,none⟩=some (.slice none 0 0)) (by kernel_rfl) ⟨z0,z2,z3,z4⟩ (fun hHeld=>?_);rw[<- HWD.out] at hHeld ⊢;refine tk 0 ?_;refine tk 1 ?_;refine tk 2 ?_;refine tk 3 ?_;refine tk 4 ?_;refine tk 5 ?_;refine tk 6 ?_;refine tk 7 ?_;refine tk 8 ?_;refine tk 9 ?_;refine tk 10 ?_;refine tk 11 ?_;refine tk 13 ?_;refine tk 14 ?_;refine tk 15 ?_;refine tk 16 ?_;refine Aj 12 fun K hK=>?_
 go_simp;refine t5.mono ?_;rintro e w5 ⟨rfl,hb5⟩;have HB5:=A5 hb5;have HBb5:=A5 (Ab HXD.out.b hb5);obtain⟨ff,q0,q1,q2,q3,q4,q5,q6⟩:=HRES.out w5 (HBb5.out.block (w.heap.size+1) (by omega));have f0:=ff 0;have f1:=ff 1;have f2:=ff 2;have f3:=ff 3;have f4:=ff 4;have f5:=ff 5;have f6:=ff 6;obtain⟨wF,hwF⟩:∃wF,wF=(((((((w5.setCell ⟨w.heap.size+1,0,none⟩ (.int .i64 0)).setCell ⟨w.heap.size+1,1,none⟩ (.int .i64 (l.length:Int))).setCell ⟨w.heap.size+1,2,none⟩ (.slice (some ⟨g1,0,none⟩) M.length c1)).setCell ⟨w.heap.size+1,3,none⟩ (.slice a4 P4.length c4)).setCell ⟨w.heap.size+1,4,none⟩ (.slice none 0 0)).setCell ⟨w.heap.size+1,5,none⟩ (.slice none 0 0)).setCell ⟨w.heap.size+1,6,none⟩ (.slice none 0 0)):=⟨_,rfl⟩
 obtain⟨k0,k1,k2,k3,k4,k5,k6⟩:=Zr hwF q0 q1 q2 q3 q4 q5 q6;have HWF:=A5 hwF;have hts:BF (fun k=>k=w.heap.size+1) w5 wF:=by
  rw[hwF];exact(((((((BF.refl (S:=fun k=>k=w.heap.size+1) w5).set _ _ rfl).set _ _ rfl).set _ _ rfl).set _ _ rfl).set _ _ rfl).set _ _ rfl).set _ _ rfl
 have HSF:Hid (wF.cell? ⟨w2.heap.size,0,none⟩=some (.pointer (some ⟨gu,0,none⟩))/\wF.cell? ⟨w2.heap.size,2,none⟩=some (.int .i64 (l.length:Int))/\wF.cell? ⟨w2.heap.size,3,none⟩=some (.int .i64 0)/\wF.cell? ⟨w2.heap.size,4,none⟩=some (.slice none 0 0)):=A6 (by
  obtain⟨e0,e2,e3,e4⟩:=HSB.out w5 hb5
  have l5:w2.heap.size<w5.heap.size:=Nat.lt_of_lt_of_le HXD.out.x.lt hb5.size
  have nn:¬w2.heap.size=w.heap.size+1:=by omega
  exact⟨(hts.cell (p:=⟨w2.heap.size,0,none⟩) l5 nn).trans e0,(hts.cell (p:=⟨w2.heap.size,2,none⟩) l5 nn).trans e2,(hts.cell (p:=⟨w2.heap.size,3,none⟩) l5 nn).trans e3,(hts.cell (p:=⟨w2.heap.size,4,none⟩) l5 nn).trans e4⟩)
 have HFIN:Hid (OM w M l.length (.returned (.agg #[.int .i64 0,.int .i64 (l.length:Int),.slice (some ⟨g1,0,none⟩) M.length c1,.slice a4 P4.length c4,.slice none 0 0,.slice none 0 0,.slice none 0 0])) wF):=A6 (by
  refine⟨g1,c1,a4,P4.length,c4,rfl,?_,?_⟩
  ·have hr5:=HRM.out.below hb5
   refine(hr5.tch hts (fun k hk e=>?_)).rebase (by omega)
   have h9:k=g1:=by injection hk with e;exact e.symm
   have:=(HRM.out.own g1 rfl).1
   omega
  ·have hb:=Ab HBB.out HBb5.out
   exact⟨hts.os.trans hb.os,hts.tape.trans hb.tape,hts.output.trans hb.output,Nat.le_trans hb.size hts.size,fun k hk=>(hts.block k (by have:=hb.size;omega) (by omega)).trans (hb.block k hk)⟩)
 clear hb5 ff hwF hts;go_wp2_with fail
 refine hK.out _ _ (HSB.out w5 HB5.out) (fun hHeld2=>?_);clear hK K;refine tk 17 ?_;refine Aj 18 fun K hK=>?_
 go_simp;rw[<- HWF.out];refine hK.out _ _ HSF.out (fun hHeld3=>?_);clear hK K;refine AZ ?_;clear hHeld hHeld2 hHeld3;go_wp2_with fail
 exact bodyPost_ret (v:=.agg #[.int .i64 0,.int .i64 (l.length:Int),.slice (some ⟨g1,0,none⟩) M.length c1,.slice a4 P4.length c4,.slice none 0 0,.slice none 0 0,.slice none 0 0]) (by simp[results,results14,go_sem,k0,k1,k2,k3,k4,k5,k6]) rfl HFIN.out
end Go.Proofs.YtnmhkgmmpkjjeaaGreat
