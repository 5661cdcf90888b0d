import Derived.Test.YtnmhkgmmpkjjeabGreatE23
namespace Go.Proofs.YtnmhkgmmpkjjeabGreat
open ChangeShapes WideShapes ChangeAt RowKit Proofs.Tryz
set_option linter.all false
set_option maxRecDepth 100000
set_option maxHeartbeats 4000000
attribute [local go_sem ↓] wp_at_zero wp_at_succ
theorem A5.put4(a:World)(B:Nat)(v0 v1 v2 v3:Value):A5 (fun k=>k=B) a ((((a.setCell ⟨B,0,Option.none⟩ v0).setCell ⟨B,1,Option.none⟩ v1).setCell ⟨B,2,Option.none⟩ v2).setCell ⟨B,3,Option.none⟩ v3):=by
 refine⟨rfl,rfl,rfl,by simp,fun k hk hn=>?_⟩;have n1:k≠B:=hn;rw[Below.heap_setCell _ _ _ _ (by exact n1),Below.heap_setCell _ _ _ _ (by exact n1),Below.heap_setCell _ _ _ _ (by exact n1),Below.heap_setCell _ _ _ _ (by exact n1)]
set_option maxRecDepth 100000 in
theorem GA(gu b0 B:Nat)(u:UV)(M:A9)(page need choice:Int)(w:World)(hp0:0<=page)(hp1:page<4096)(hc0:0<=choice)(hc1:choice<=65535)(hnd:Ap need=true)(hok:Cv M)(hv:AG M=true)(hB:B<=w.heap.size)(h:UM w gu b0 B true u M):Calls prog 52 #[.pointer (some ⟨gu,0,none⟩),.int .i64 page,.int .i64 need,.int .i64 choice] w fun r w'=>r=.returned (Cg (DY M page need choice))/\∃u',AT w w' gu b0 B true u u' (Cw M page choice):=by
 have hh:=DU choice 7 128 rfl (by omega) hc0 hc1;obtain⟨wb,hwb⟩:∃wb,wb=(w.alloc (.cells #[.int .i64 0,.int .i64 0,.int .i64 0,.int .i64 0] 38)).alloc (.cells #[.int .i64 0,.int .i64 0,.int .i64 0,.int .i64 0] 87):=⟨_,rfl⟩
 have hbb:Below w.heap.size w wb:=by rw[hwb];exact((Below.refl _ _).alloc (Nat.le_refl _) _).alloc (by simp) _
 have hzb:wb.heap.size=w.heap.size+2:=by rw[hwb];simp
 have HRES:Hid (∀wX,Below wb.heap.size wb wX->(wX.cell? ⟨w.heap.size,0,none⟩=some (.int .i64 0)/\wX.cell? ⟨w.heap.size,1,none⟩=some (.int .i64 0)/\wX.cell? ⟨w.heap.size,2,none⟩=some (.int .i64 0)/\wX.cell? ⟨w.heap.size,3,none⟩=some (.int .i64 0))/\(wX.cell? ⟨w.heap.size+1,0,none⟩=some (.int .i64 0)/\wX.cell? ⟨w.heap.size+1,1,none⟩=some (.int .i64 0)/\wX.cell? ⟨w.heap.size+1,2,none⟩=some (.int .i64 0)/\wX.cell? ⟨w.heap.size+1,3,none⟩=some (.int .i64 0))/\(wX.frozen? ⟨w.heap.size,0,none⟩=false/\wX.frozen? ⟨w.heap.size,1,none⟩=false/\wX.frozen? ⟨w.heap.size,2,none⟩=false/\wX.frozen? ⟨w.heap.size,3,none⟩=false)/\(wX.frozen? ⟨w.heap.size+1,0,none⟩=false/\wX.frozen? ⟨w.heap.size+1,1,none⟩=false/\wX.frozen? ⟨w.heap.size+1,2,none⟩=false/\wX.frozen? ⟨w.heap.size+1,3,none⟩=false)/\w.heap.size+1<wX.heap.size):=fun wX hX=>by
  refine⟨⟨?_,?_,?_,?_⟩,⟨?_,?_,?_,?_⟩,⟨?_,?_,?_,?_⟩,⟨?_,?_,?_,?_⟩,by have:=hX.size;omega⟩;iterate 8 (exact(hX.cell (by simp;omega)).trans (by rw[hwb];simp[go_sem]))
  iterate 8 (exact(hX.frozen (by simp;omega)).trans (by rw[hwb];simp[go_sem]))
 have HUM:Hid (UM w gu b0 B true u M):=h;obtain⟨R,hR⟩:∃R,R=Ah M page choice:=⟨_,rfl⟩
 have HWK:Hid (∀wX,Below w.heap.size w wX->Calls prog 105 #[.pointer (some ⟨gu,0,none⟩),.int .i64 page,.int .i64 choice] wX fun r w'=>r=.returned (.agg #[.int .i64 R.2.kind,.int .i64 R.2.out,.int .i64 R.2.perm,.int .i64 R.2.size])/\∃u',AT wX w' gu b0 B true u u' R.1):=fun wX hX=>by
  rw[hR]
  exact Iy gu b0 B true u M page choice wX hp0 hp1 hc0 hc1 hok (by have:=hX.size;omega) (fun i hi=>by
   have h1:=Ca hv i hi
   unfold AX at h1
   simp only[Bool.and_eq_true,Bool.or_eq_true,decide_eq_true_eq] at h1
   have h2:0<=(A8 AJ M.wc i).page/\(A8 AJ M.wc i).page<4096:=by simpa [AP] using h1.1.1.1.2
   exact⟨h1.1.1.1.1,h2.1,h2.2,h1.1.1.2⟩) (Dd hv page choice) (.inl rfl) (fun _ i hi=>(BI hv i hi).1) (h.below hX)
 have HSO:Hid (∀wX,Calls prog 106 #[.agg #[.int .i64 R.2.kind,.int .i64 R.2.out,.int .i64 R.2.perm,.int .i64 R.2.size],.int .i64 page,.int .i64 need] wX fun e w'=>e=.returned (Cg (Bs page need R.2))/\Below wX.heap.size wX w'):=fun wX=>by
  rw[hR];exact GY _ page need (GC M page choice) hnd wX
 have hent:∀i,i<M.tlb.length->(Js (A8 A7 M.tlb i)/\0<=(A8 A7 M.tlb i).out/\(A8 A7 M.tlb i).out<65536)/\0<=(A8 A7 M.tlb i).perm/\(A8 A7 M.tlb i).perm<=7:=fun i hi=>by
  have h1:=CV hv i hi;unfold AH at h1;simp only[Bool.and_eq_true,Bool.or_eq_true,decide_eq_true_eq] at h1;exact⟨⟨G2 hv i hi,h1.1.1.2,h1.1.2⟩,by omega,h1.1.1.1.2⟩
 have HLU:Hid (∀wX,Below w.heap.size w wX->Calls prog 104 #[.pointer (some ⟨gu,0,none⟩),.int .i64 page] wX fun r w'=>r=.returned (Jh M page)/\Below wX.heap.size wX w'):=fun wX hX=>KA gu b0 B true u M page wX hp0 hp1 hok.t (fun i hi=>(hent i hi).1) (h.below hX)
 have HLP:Hid (BL M page<M.tlb.length->0<=(BG M page).perm/\(BG M page).perm<=7):=fun hf=>by
  unfold BG;split
  ·exact⟨by simp,by simp⟩
  ·exact(hent _ hf).2
 have HWB:Hid (wb=_):=hwb;have HBB:Hid (Below _ w wb):=hbb;have HZ:Hid (wb.heap.size=w.heap.size+2):=hzb;have HFIN:Hid (∀(wA w3:World) (u':UV),Below w.heap.size w wA->w.heap.size+1<wA.heap.size->AT wA w3 gu b0 B true u u' R.1->∀ws,A5 (fun k=>k=w.heap.size+1) w3 ws->∀w4,Below ws.heap.size ws w4->∀wF,A5 (fun k=>k=w.heap.size) w4 wF->AT w wF gu b0 B true u u' R.1):=by
  intro wA w3 u' hA hs hst ws hT1 w4 hb4 wF hT2;have hlt:∀k,u.wr gu k->k<w.heap.size:=fun k hk=>h.wr_lt k hk
  have n0:¬u'.wr gu w.heap.size:=hst.wr_new (by omega) (fun hk=>by have:=hlt _ hk;omega);have n1:¬u'.wr gu (w.heap.size+1):=hst.wr_new hs (fun hk=>by have:=hlt _ hk;omega);have s1:AT w w3 gu b0 B true u u' R.1:=AT.seal hA h hst ⟨rfl,rfl,rfl,Nat.le_refl _,fun _ _ _=>rfl⟩;have s2:AT w ws gu b0 B true u u' R.1:=AT.own h s1 hT1 (by omega) n1;have s3:AT w w4 gu b0 B true u u' R.1:=AT.trans s2 (AT.refl s2.um hb4);exact AT.own h s3 hT2 (Nat.le_refl _) n0
 have HNW:Hid (∀(wA w3:World) (u':UV),Below w.heap.size w wA->AT wA w3 gu b0 B true u u' R.1->∀k,w.heap.size<=k->k<wA.heap.size->w3.heap[k]?=wA.heap[k]?):=by
  intro wA w3 u' hA hst k hk hk2;exact hst.tch.block k hk2 (fun hw=>by have:=h.wr_lt k hw;omega)
 have HN:Hid (JK M page choice=false->Cw M page choice=R.1/\DY M page need choice=Bs page need R.2):=fun hu=>by
  unfold Cw DY;rw[hu,hR];exact⟨rfl,rfl⟩
 have HY:Hid (JK M page choice=true->Cw M page choice=M/\DY M page need choice=Bs page need (BG M page)):=fun hu=>by
  unfold Cw DY;rw[hu];exact⟨rfl,rfl⟩
 have HUT:Hid (JK M page choice=(BT choice 7&&decide (BL M page<M.tlb.length))):=rfl;clear hwb hbb hzb h hR hent hok hv;cases hb7:BT choice 7
 ·rw[hb7] at hh;have HV2:Hid (Cw M page choice=R.1/\DY M page need choice=Bs page need R.2):=HN.out (by rw[HUT.out,hb7];rfl);have HA:Hid ((wb.cell? ⟨w.heap.size,0,none⟩=some (.int .i64 0)/\wb.cell? ⟨w.heap.size,1,none⟩=some (.int .i64 0)/\wb.cell? ⟨w.heap.size,2,none⟩=some (.int .i64 0)/\wb.cell? ⟨w.heap.size,3,none⟩=some (.int .i64 0))/\(wb.cell? ⟨w.heap.size+1,0,none⟩=some (.int .i64 0)/\wb.cell? ⟨w.heap.size+1,1,none⟩=some (.int .i64 0)/\wb.cell? ⟨w.heap.size+1,2,none⟩=some (.int .i64 0)/\wb.cell? ⟨w.heap.size+1,3,none⟩=some (.int .i64 0))/\(wb.frozen? ⟨w.heap.size,0,none⟩=false/\wb.frozen? ⟨w.heap.size,1,none⟩=false/\wb.frozen? ⟨w.heap.size,2,none⟩=false/\wb.frozen? ⟨w.heap.size,3,none⟩=false)/\(wb.frozen? ⟨w.heap.size+1,0,none⟩=false/\wb.frozen? ⟨w.heap.size+1,1,none⟩=false/\wb.frozen? ⟨w.heap.size+1,2,none⟩=false/\wb.frozen? ⟨w.heap.size+1,3,none⟩=false)):=by
   obtain⟨a,b,c,d,_⟩:=HRES.out wb (Below.refl _ _);exact⟨a,b,c,d⟩
  have HSA:Hid (w.heap.size+1<wb.heap.size):=by have:=HZ.out;show w.heap.size+1<wb.heap.size;omega
  clear hb7;go_enter func52,ntmps52
  go_wp2_with (go_at_call 103;refine(hh _).mono ?_;rintro e wE ⟨rfl,hwE⟩;obtain rfl:=hwE.symm)
  rw[<- HWB.out];refine(HWK.out wb HBB.out).mono ?_;rintro r w3 ⟨rfl,u',hst⟩;have z0:=HNW.out wb w3 u' HBB.out hst w.heap.size (Nat.le_refl _) (by have:=HSA.out;omega);have z1:=HNW.out wb w3 u' HBB.out hst (w.heap.size+1) (by omega) HSA.out;have HST:Hid (AT wb w3 gu b0 B true u u' R.1):=hst;obtain⟨⟨r0,r1,r2,r3⟩,⟨m0,m1,m2,m3⟩,⟨g0,g1,g2,g3⟩,⟨l0,l1,l2,l3⟩⟩:=HA.out;have HA3:Hid ((w3.cell? ⟨w.heap.size,0,none⟩=some (.int .i64 0)/\w3.cell? ⟨w.heap.size,1,none⟩=some (.int .i64 0)/\w3.cell? ⟨w.heap.size,2,none⟩=some (.int .i64 0)/\w3.cell? ⟨w.heap.size,3,none⟩=some (.int .i64 0))/\(w3.frozen? ⟨w.heap.size,0,none⟩=false/\w3.frozen? ⟨w.heap.size,1,none⟩=false/\w3.frozen? ⟨w.heap.size,2,none⟩=false/\w3.frozen? ⟨w.heap.size,3,none⟩=false)/\(w3.cell? ⟨w.heap.size+1,0,none⟩=some (.int .i64 0)/\w3.cell? ⟨w.heap.size+1,1,none⟩=some (.int .i64 0)/\w3.cell? ⟨w.heap.size+1,2,none⟩=some (.int .i64 0)/\w3.cell? ⟨w.heap.size+1,3,none⟩=some (.int .i64 0))/\(w3.frozen? ⟨w.heap.size+1,0,none⟩=false/\w3.frozen? ⟨w.heap.size+1,1,none⟩=false/\w3.frozen? ⟨w.heap.size+1,2,none⟩=false/\w3.frozen? ⟨w.heap.size+1,3,none⟩=false)):=by
   refine⟨⟨?_,?_,?_,?_⟩,⟨?_,?_,?_,?_⟩,⟨?_,?_,?_,?_⟩,?_,?_,?_,?_⟩
   ·exact(World.cell?_of_block z0).trans r0
   ·exact(World.cell?_of_block z0).trans r1
   ·exact(World.cell?_of_block z0).trans r2
   ·exact(World.cell?_of_block z0).trans r3
   ·exact(World.frozen?_of_block z0).trans g0
   ·exact(World.frozen?_of_block z0).trans g1
   ·exact(World.frozen?_of_block z0).trans g2
   ·exact(World.frozen?_of_block z0).trans g3
   ·exact(World.cell?_of_block z1).trans m0
   ·exact(World.cell?_of_block z1).trans m1
   ·exact(World.cell?_of_block z1).trans m2
   ·exact(World.cell?_of_block z1).trans m3
   ·exact(World.frozen?_of_block z1).trans l0
   ·exact(World.frozen?_of_block z1).trans l1
   ·exact(World.frozen?_of_block z1).trans l2
   ·exact(World.frozen?_of_block z1).trans l3
  have hsz3:=hst.tch.size;have hsA:=HSA.out;clear hst z0 z1 r0 r1 r2 r3 m0 m1 m2 m3 g0 g1 g2 g3 l0 l1 l2 l3;obtain⟨⟨r0,r1,r2,r3⟩,⟨g0,g1,g2,g3⟩,⟨m0,m1,m2,m3⟩,l0,l1,l2,l3⟩:=HA3.out;obtain⟨ws,hws⟩:∃ws,ws=((((w3.setCell ⟨w.heap.size+1,0,none⟩ (.int .i64 R.2.kind)).setCell ⟨w.heap.size+1,1,none⟩ (.int .i64 R.2.out)).setCell ⟨w.heap.size+1,2,none⟩ (.int .i64 R.2.perm)).setCell ⟨w.heap.size+1,3,none⟩ (.int .i64 R.2.size)):=⟨_,rfl⟩
  have hT1:A5 (fun k=>k=w.heap.size+1) w3 ws:=by rw[hws];exact A5.put4 w3 _ _ _ _ _
  have hb0:=hT1.block w.heap.size (by omega) (by omega);have HS0:Hid (∀wX,Below ws.heap.size ws wX->(wX.cell? ⟨w.heap.size,0,none⟩=some (.int .i64 0)/\wX.cell? ⟨w.heap.size,1,none⟩=some (.int .i64 0)/\wX.cell? ⟨w.heap.size,2,none⟩=some (.int .i64 0)/\wX.cell? ⟨w.heap.size,3,none⟩=some (.int .i64 0))/\(wX.frozen? ⟨w.heap.size,0,none⟩=false/\wX.frozen? ⟨w.heap.size,1,none⟩=false/\wX.frozen? ⟨w.heap.size,2,none⟩=false/\wX.frozen? ⟨w.heap.size,3,none⟩=false)):=fun wX hX=>by
   have hz:=hT1.size;refine⟨⟨?_,?_,?_,?_⟩,?_,?_,?_,?_⟩
   ·exact(hX.cell (by simp;omega)).trans ((World.cell?_of_block hb0).trans r0)
   ·exact(hX.cell (by simp;omega)).trans ((World.cell?_of_block hb0).trans r1)
   ·exact(hX.cell (by simp;omega)).trans ((World.cell?_of_block hb0).trans r2)
   ·exact(hX.cell (by simp;omega)).trans ((World.cell?_of_block hb0).trans r3)
   ·exact(hX.frozen (by simp;omega)).trans ((World.frozen?_of_block hb0).trans g0)
   ·exact(hX.frozen (by simp;omega)).trans ((World.frozen?_of_block hb0).trans g1)
   ·exact(hX.frozen (by simp;omega)).trans ((World.frozen?_of_block hb0).trans g2)
   ·exact(hX.frozen (by simp;omega)).trans ((World.frozen?_of_block hb0).trans g3)
  have HT1:Hid (A5 (fun k=>k=w.heap.size+1) w3 ws):=hT1;have HWS:Hid (ws=_):=hws;clear hws hT1 hb0 r0 r1 r2 r3 g0 g1 g2 g3;go_wp2_with fail
  rw[<- HWS.out];refine(HSO.out ws).mono ?_;rintro r w4 ⟨rfl,hb4⟩;obtain⟨⟨r0,r1,r2,r3⟩,g0,g1,g2,g3⟩:=HS0.out w4 hb4;have HFN:Hid _:=HFIN.out wb w3 u' HBB.out HSA.out HST.out ws HT1.out w4 hb4;obtain⟨SX,hSX⟩:∃SX,SX=Bs page need R.2:=⟨_,rfl⟩
  rw[<- hSX];have HSX:Hid (SX=_):=hSX;clear hSX m0 m1 m2 m3 l0 l1 l2 l3 hb4;unfold Cg;go_wp2_with fail
  obtain⟨wF,hwF⟩:∃wF,wF=((((w4.setCell ⟨w.heap.size,0,none⟩ (.int .i64 SX.page)).setCell ⟨w.heap.size,1,none⟩ (.int .i64 SX.need)).setCell ⟨w.heap.size,2,none⟩ (.int .i64 SX.kind)).setCell ⟨w.heap.size,3,none⟩ (.int .i64 SX.out)):=⟨_,rfl⟩
  have f0:wF.cell? ⟨w.heap.size,0,none⟩=some (.int .i64 SX.page):=by rw[hwF];simp[go_sem,r0]
  have f1:wF.cell? ⟨w.heap.size,1,none⟩=some (.int .i64 SX.need):=by rw[hwF];simp[go_sem,r1]
  have f2:wF.cell? ⟨w.heap.size,2,none⟩=some (.int .i64 SX.kind):=by rw[hwF];simp[go_sem,r2]
  have f3:wF.cell? ⟨w.heap.size,3,none⟩=some (.int .i64 SX.out):=by rw[hwF];simp[go_sem,r3]
  have hT2:A5 (fun k=>k=w.heap.size) w4 wF:=by rw[hwF];exact A5.put4 w4 _ _ _ _ _
  rw[<- hwF];exact bodyPost_ret (v:=.agg #[.int .i64 SX.page,.int .i64 SX.need,.int .i64 SX.kind,.int .i64 SX.out]) (by simp[results,results52,go_sem,f0,f1,f2,f3]) rfl ⟨by rw[HV2.out.2,<- HSX.out];rfl,u',by rw[HV2.out.1];exact HFN.out wF hT2⟩
 ·rw[hb7] at hh;have hlu:=HLU.out wb HBB.out;rw[HWB.out] at hlu;by_cases hf:BL M page<M.tlb.length
  ·obtain⟨v1,v2⟩:=HY.out (by rw[HUT.out,hb7,decide_eq_true hf];rfl);rw[v1,v2];(have hso:=fun wX=>GY (BG M page) page need (HLP.out hf) hnd wX);(have hlv:Jh M page=.tuple #[DE (BG M page),.bool true]:=by unfold Jh;rw[if_pos hf,decide_eq_true hf]);rw[hlv] at hlu;(obtain⟨SX,hSX⟩:∃SX,SX=Bs page need (BG M page):=⟨_,rfl⟩);rw[<- hSX] at hso ⊢;unfold DE at hso hlu;unfold Cg at hso ⊢;generalize (BG M page).kind=H0 at *;generalize (BG M page).out=H1 at *;generalize (BG M page).perm=H2 at *;generalize (BG M page).size=H3 at *;clear hb7 hf v1 v2 hlv hSX;(go_enter func52,ntmps52);(go_wp2_with (go_at_call 103;refine(hh _).mono ?_;rintro e wE ⟨rfl,hwE⟩;obtain rfl:=hwE.symm));refine hlu.mono ?_;rintro r w1 ⟨rfl,hb1'⟩;(have hb1:Below wb.heap.size wb w1:=by rw[HWB.out];exact hb1');obtain⟨⟨r0,r1,r2,r3⟩,⟨m0,m1,m2,m3⟩,⟨g0,g1,g2,g3⟩,⟨l0,l1,l2,l3⟩,N1⟩:=HRES.out w1 hb1;(obtain⟨ws,hws⟩:∃ws,ws=((((w1.setCell ⟨w.heap.size+1,0,none⟩ (.int .i64 H0)).setCell ⟨w.heap.size+1,1,none⟩ (.int .i64 H1)).setCell ⟨w.heap.size+1,2,none⟩ (.int .i64 H2)).setCell ⟨w.heap.size+1,3,none⟩ (.int .i64 H3)):=⟨_,rfl⟩);(have hT1:A5 (fun k=>k=w.heap.size+1) w1 ws:=by rw[hws];exact A5.put4 w1 _ _ _ _ _);have hb0:=hT1.block w.heap.size (by omega) (by omega);have HBS:Hid (Below w.heap.size w ws):=A5.below (HBB.out.trans (hb1.mono (by have:=HZ.out;omega))) hT1 (by omega) (fun k hk=>by omega);have HS0:Hid (∀wX,Below ws.heap.size ws wX->(wX.cell? ⟨w.heap.size,0,none⟩=some (.int .i64 0)/\wX.cell? ⟨w.heap.size,1,none⟩=some (.int .i64 0)/\wX.cell? ⟨w.heap.size,2,none⟩=some (.int .i64 0)/\wX.cell? ⟨w.heap.size,3,none⟩=some (.int .i64 0))/\(wX.frozen? ⟨w.heap.size,0,none⟩=false/\wX.frozen? ⟨w.heap.size,1,none⟩=false/\wX.frozen? ⟨w.heap.size,2,none⟩=false/\wX.frozen? ⟨w.heap.size,3,none⟩=false)):=fun wX hX=>by
    have hz:=hT1.size;refine⟨⟨?_,?_,?_,?_⟩,?_,?_,?_,?_⟩
    ·exact(hX.cell (by simp;omega)).trans ((World.cell?_of_block hb0).trans r0)
    ·exact(hX.cell (by simp;omega)).trans ((World.cell?_of_block hb0).trans r1)
    ·exact(hX.cell (by simp;omega)).trans ((World.cell?_of_block hb0).trans r2)
    ·exact(hX.cell (by simp;omega)).trans ((World.cell?_of_block hb0).trans r3)
    ·exact(hX.frozen (by simp;omega)).trans ((World.frozen?_of_block hb0).trans g0)
    ·exact(hX.frozen (by simp;omega)).trans ((World.frozen?_of_block hb0).trans g1)
    ·exact(hX.frozen (by simp;omega)).trans ((World.frozen?_of_block hb0).trans g2)
    ·exact(hX.frozen (by simp;omega)).trans ((World.frozen?_of_block hb0).trans g3)
   have HWS:Hid (ws=_):=hws;clear hws hT1 hb0 hb1' hb1 hlu r0 r1 r2 r3 g0 g1 g2 g3;(go_wp2_with fail);rw[<- HWS.out];refine(hso ws).mono ?_;rintro r w4 ⟨rfl,hb4⟩;obtain⟨⟨r0,r1,r2,r3⟩,g0,g1,g2,g3⟩:=HS0.out w4 hb4;have HB4:Hid (Below w.heap.size w w4):=HBS.out.trans (hb4.mono HBS.out.size);clear hb4 hso m0 m1 m2 m3 l0 l1 l2 l3;(go_wp2_with fail);(obtain⟨wF,hwF⟩:∃wF,wF=((((w4.setCell ⟨w.heap.size,0,none⟩ (.int .i64 SX.page)).setCell ⟨w.heap.size,1,none⟩ (.int .i64 SX.need)).setCell ⟨w.heap.size,2,none⟩ (.int .i64 SX.kind)).setCell ⟨w.heap.size,3,none⟩ (.int .i64 SX.out)):=⟨_,rfl⟩);(have f0:wF.cell? ⟨w.heap.size,0,none⟩=some (.int .i64 SX.page):=by rw[hwF];simp[go_sem,r0]);(have f1:wF.cell? ⟨w.heap.size,1,none⟩=some (.int .i64 SX.need):=by rw[hwF];simp[go_sem,r1]);(have f2:wF.cell? ⟨w.heap.size,2,none⟩=some (.int .i64 SX.kind):=by rw[hwF];simp[go_sem,r2]);(have f3:wF.cell? ⟨w.heap.size,3,none⟩=some (.int .i64 SX.out):=by rw[hwF];simp[go_sem,r3]);(have hT2:A5 (fun k=>k=w.heap.size) w4 wF:=by rw[hwF];exact A5.put4 w4 _ _ _ _ _);rw[<- hwF];exact bodyPost_ret (v:=.agg #[.int .i64 SX.page,.int .i64 SX.need,.int .i64 SX.kind,.int .i64 SX.out]) (by simp[results,results52,go_sem,f0,f1,f2,f3]) rfl ⟨rfl,u,AT.refl HUM.out (A5.below HB4.out hT2 HB4.out.size (fun k hk=>by omega))⟩
  ·have HV2:Hid (Cw M page choice=R.1/\DY M page need choice=Bs page need R.2):=HN.out (by rw[HUT.out,hb7,decide_eq_false hf];rfl);(have hlv:Jh M page=.tuple #[.agg #[.int .i64 0,.int .i64 0,.int .i64 0,.int .i64 0],.bool false]:=by unfold Jh;rw[if_neg hf,decide_eq_false hf];rfl);rw[hlv] at hlu;clear hb7 hf hlv;(go_enter func52,ntmps52);(go_wp2_with (go_at_call 103;refine(hh _).mono ?_;rintro e wE ⟨rfl,hwE⟩;obtain rfl:=hwE.symm));refine hlu.mono ?_;rintro r w1 ⟨rfl,hb1'⟩;(have hb1:Below wb.heap.size wb w1:=by rw[HWB.out];exact hb1');obtain⟨⟨r0,r1,r2,r3⟩,⟨m0,m1,m2,m3⟩,⟨g0,g1,g2,g3⟩,⟨l0,l1,l2,l3⟩,N1⟩:=HRES.out w1 hb1;(obtain⟨wA,hwA⟩:∃wA,wA=((((w1.setCell ⟨w.heap.size+1,0,none⟩ (.int .i64 0)).setCell ⟨w.heap.size+1,1,none⟩ (.int .i64 0)).setCell ⟨w.heap.size+1,2,none⟩ (.int .i64 0)).setCell ⟨w.heap.size+1,3,none⟩ (.int .i64 0)):=⟨_,rfl⟩);(have hT1:A5 (fun k=>k=w.heap.size+1) w1 wA:=by rw[hwA];exact A5.put4 w1 _ _ _ _ _);have hb0:=hT1.block w.heap.size (by omega) (by omega);have HBA:Hid (Below w.heap.size w wA):=A5.below (HBB.out.trans (hb1.mono (by have:=HZ.out;omega))) hT1 (by omega) (fun k hk=>by omega);(have HSA:Hid (w.heap.size+1<wA.heap.size):=by have:=hT1.size;show w.heap.size+1<wA.heap.size;omega);have HA:Hid ((wA.cell? ⟨w.heap.size,0,none⟩=some (.int .i64 0)/\wA.cell? ⟨w.heap.size,1,none⟩=some (.int .i64 0)/\wA.cell? ⟨w.heap.size,2,none⟩=some (.int .i64 0)/\wA.cell? ⟨w.heap.size,3,none⟩=some (.int .i64 0))/\(wA.cell? ⟨w.heap.size+1,0,none⟩=some (.int .i64 0)/\wA.cell? ⟨w.heap.size+1,1,none⟩=some (.int .i64 0)/\wA.cell? ⟨w.heap.size+1,2,none⟩=some (.int .i64 0)/\wA.cell? ⟨w.heap.size+1,3,none⟩=some (.int .i64 0))/\(wA.frozen? ⟨w.heap.size,0,none⟩=false/\wA.frozen? ⟨w.heap.size,1,none⟩=false/\wA.frozen? ⟨w.heap.size,2,none⟩=false/\wA.frozen? ⟨w.heap.size,3,none⟩=false)/\(wA.frozen? ⟨w.heap.size+1,0,none⟩=false/\wA.frozen? ⟨w.heap.size+1,1,none⟩=false/\wA.frozen? ⟨w.heap.size+1,2,none⟩=false/\wA.frozen? ⟨w.heap.size+1,3,none⟩=false)):=by
    refine⟨⟨?_,?_,?_,?_⟩,⟨?_,?_,?_,?_⟩,⟨?_,?_,?_,?_⟩,?_,?_,?_,?_⟩
    ·exact(World.cell?_of_block hb0).trans r0
    ·exact(World.cell?_of_block hb0).trans r1
    ·exact(World.cell?_of_block hb0).trans r2
    ·exact(World.cell?_of_block hb0).trans r3
    ·rw[hwA];simp[go_sem,m0]
    ·rw[hwA];simp[go_sem,m1]
    ·rw[hwA];simp[go_sem,m2]
    ·rw[hwA];simp[go_sem,m3]
    ·exact(World.frozen?_of_block hb0).trans g0
    ·exact(World.frozen?_of_block hb0).trans g1
    ·exact(World.frozen?_of_block hb0).trans g2
    ·exact(World.frozen?_of_block hb0).trans g3
    ·rw[hwA];simp[go_sem,l0]
    ·rw[hwA];simp[go_sem,l1]
    ·rw[hwA];simp[go_sem,l2]
    ·rw[hwA];simp[go_sem,l3]
   have HWA:Hid (wA=_):=hwA;clear hwA hT1 hb0 hb1' hb1 hlu r0 r1 r2 r3 g0 g1 g2 g3;(go_wp2_with fail);rw[<- HWA.out];clear m0 m1 m2 m3 l0 l1 l2 l3;refine(HWK.out wA HBA.out).mono ?_;rintro r w3 ⟨rfl,u',hst⟩;have z0:=HNW.out wA w3 u' HBA.out hst w.heap.size (Nat.le_refl _) (by have:=HSA.out;omega);have z1:=HNW.out wA w3 u' HBA.out hst (w.heap.size+1) (by omega) HSA.out;have HST:Hid (AT wA w3 gu b0 B true u u' R.1):=hst;obtain⟨⟨r0,r1,r2,r3⟩,⟨m0,m1,m2,m3⟩,⟨g0,g1,g2,g3⟩,⟨l0,l1,l2,l3⟩⟩:=HA.out;have HA3:Hid ((w3.cell? ⟨w.heap.size,0,none⟩=some (.int .i64 0)/\w3.cell? ⟨w.heap.size,1,none⟩=some (.int .i64 0)/\w3.cell? ⟨w.heap.size,2,none⟩=some (.int .i64 0)/\w3.cell? ⟨w.heap.size,3,none⟩=some (.int .i64 0))/\(w3.frozen? ⟨w.heap.size,0,none⟩=false/\w3.frozen? ⟨w.heap.size,1,none⟩=false/\w3.frozen? ⟨w.heap.size,2,none⟩=false/\w3.frozen? ⟨w.heap.size,3,none⟩=false)/\(w3.cell? ⟨w.heap.size+1,0,none⟩=some (.int .i64 0)/\w3.cell? ⟨w.heap.size+1,1,none⟩=some (.int .i64 0)/\w3.cell? ⟨w.heap.size+1,2,none⟩=some (.int .i64 0)/\w3.cell? ⟨w.heap.size+1,3,none⟩=some (.int .i64 0))/\(w3.frozen? ⟨w.heap.size+1,0,none⟩=false/\w3.frozen? ⟨w.heap.size+1,1,none⟩=false/\w3.frozen? ⟨w.heap.size+1,2,none⟩=false/\w3.frozen? ⟨w.heap.size+1,3,none⟩=false)):=by
    refine⟨⟨?_,?_,?_,?_⟩,⟨?_,?_,?_,?_⟩,⟨?_,?_,?_,?_⟩,?_,?_,?_,?_⟩
    ·exact(World.cell?_of_block z0).trans r0
    ·exact(World.cell?_of_block z0).trans r1
    ·exact(World.cell?_of_block z0).trans r2
    ·exact(World.cell?_of_block z0).trans r3
    ·exact(World.frozen?_of_block z0).trans g0
    ·exact(World.frozen?_of_block z0).trans g1
    ·exact(World.frozen?_of_block z0).trans g2
    ·exact(World.frozen?_of_block z0).trans g3
    ·exact(World.cell?_of_block z1).trans m0
    ·exact(World.cell?_of_block z1).trans m1
    ·exact(World.cell?_of_block z1).trans m2
    ·exact(World.cell?_of_block z1).trans m3
    ·exact(World.frozen?_of_block z1).trans l0
    ·exact(World.frozen?_of_block z1).trans l1
    ·exact(World.frozen?_of_block z1).trans l2
    ·exact(World.frozen?_of_block z1).trans l3
   have hsz3:=hst.tch.size;have hsA:=HSA.out;clear hst z0 z1 r0 r1 r2 r3 m0 m1 m2 m3 g0 g1 g2 g3 l0 l1 l2 l3;obtain⟨⟨r0,r1,r2,r3⟩,⟨g0,g1,g2,g3⟩,⟨m0,m1,m2,m3⟩,l0,l1,l2,l3⟩:=HA3.out;(obtain⟨ws,hws⟩:∃ws,ws=((((w3.setCell ⟨w.heap.size+1,0,none⟩ (.int .i64 R.2.kind)).setCell ⟨w.heap.size+1,1,none⟩ (.int .i64 R.2.out)).setCell ⟨w.heap.size+1,2,none⟩ (.int .i64 R.2.perm)).setCell ⟨w.heap.size+1,3,none⟩ (.int .i64 R.2.size)):=⟨_,rfl⟩);(have hT1:A5 (fun k=>k=w.heap.size+1) w3 ws:=by rw[hws];exact A5.put4 w3 _ _ _ _ _);have hb0:=hT1.block w.heap.size (by omega) (by omega);have HS0:Hid (∀wX,Below ws.heap.size ws wX->(wX.cell? ⟨w.heap.size,0,none⟩=some (.int .i64 0)/\wX.cell? ⟨w.heap.size,1,none⟩=some (.int .i64 0)/\wX.cell? ⟨w.heap.size,2,none⟩=some (.int .i64 0)/\wX.cell? ⟨w.heap.size,3,none⟩=some (.int .i64 0))/\(wX.frozen? ⟨w.heap.size,0,none⟩=false/\wX.frozen? ⟨w.heap.size,1,none⟩=false/\wX.frozen? ⟨w.heap.size,2,none⟩=false/\wX.frozen? ⟨w.heap.size,3,none⟩=false)):=fun wX hX=>by
    have hz:=hT1.size;refine⟨⟨?_,?_,?_,?_⟩,?_,?_,?_,?_⟩
    ·exact(hX.cell (by simp;omega)).trans ((World.cell?_of_block hb0).trans r0)
    ·exact(hX.cell (by simp;omega)).trans ((World.cell?_of_block hb0).trans r1)
    ·exact(hX.cell (by simp;omega)).trans ((World.cell?_of_block hb0).trans r2)
    ·exact(hX.cell (by simp;omega)).trans ((World.cell?_of_block hb0).trans r3)
    ·exact(hX.frozen (by simp;omega)).trans ((World.frozen?_of_block hb0).trans g0)
    ·exact(hX.frozen (by simp;omega)).trans ((World.frozen?_of_block hb0).trans g1)
    ·exact(hX.frozen (by simp;omega)).trans ((World.frozen?_of_block hb0).trans g2)
    ·exact(hX.frozen (by simp;omega)).trans ((World.frozen?_of_block hb0).trans g3)
   have HT1:Hid (A5 (fun k=>k=w.heap.size+1) w3 ws):=hT1;have HWS:Hid (ws=_):=hws;clear hws hT1 hb0 r0 r1 r2 r3 g0 g1 g2 g3;(go_wp2_with fail);rw[<- HWS.out];refine(HSO.out ws).mono ?_;rintro r w4 ⟨rfl,hb4⟩;obtain⟨⟨r0,r1,r2,r3⟩,g0,g1,g2,g3⟩:=HS0.out w4 hb4;have HFN:Hid _:=HFIN.out wA w3 u' HBA.out HSA.out HST.out ws HT1.out w4 hb4;(obtain⟨SX,hSX⟩:∃SX,SX=Bs page need R.2:=⟨_,rfl⟩);rw[<- hSX];have HSX:Hid (SX=_):=hSX;clear hSX m0 m1 m2 m3 l0 l1 l2 l3 hb4;unfold Cg;(go_wp2_with fail);(obtain⟨wF,hwF⟩:∃wF,wF=((((w4.setCell ⟨w.heap.size,0,none⟩ (.int .i64 SX.page)).setCell ⟨w.heap.size,1,none⟩ (.int .i64 SX.need)).setCell ⟨w.heap.size,2,none⟩ (.int .i64 SX.kind)).setCell ⟨w.heap.size,3,none⟩ (.int .i64 SX.out)):=⟨_,rfl⟩);(have f0:wF.cell? ⟨w.heap.size,0,none⟩=some (.int .i64 SX.page):=by rw[hwF];simp[go_sem,r0]);(have f1:wF.cell? ⟨w.heap.size,1,none⟩=some (.int .i64 SX.need):=by rw[hwF];simp[go_sem,r1]);(have f2:wF.cell? ⟨w.heap.size,2,none⟩=some (.int .i64 SX.kind):=by rw[hwF];simp[go_sem,r2]);(have f3:wF.cell? ⟨w.heap.size,3,none⟩=some (.int .i64 SX.out):=by rw[hwF];simp[go_sem,r3]);(have hT2:A5 (fun k=>k=w.heap.size) w4 wF:=by rw[hwF];exact A5.put4 w4 _ _ _ _ _);rw[<- hwF];exact bodyPost_ret (v:=.agg #[.int .i64 SX.page,.int .i64 SX.need,.int .i64 SX.kind,.int .i64 SX.out]) (by simp[results,results52,go_sem,f0,f1,f2,f3]) rfl ⟨by rw[HV2.out.2,<- HSX.out];rfl,u',by rw[HV2.out.1];exact HFN.out wF hT2⟩
end Go.Proofs.YtnmhkgmmpkjjeabGreat
