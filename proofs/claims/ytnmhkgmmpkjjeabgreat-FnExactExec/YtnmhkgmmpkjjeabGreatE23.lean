import Derived.Test.YtnmhkgmmpkjjeabGreatE20
namespace Go.Proofs.YtnmhkgmmpkjjeabGreat
open ChangeShapes WideShapes ChangeAt RowKit Proofs.Tryz
set_option linter.all false
set_option maxRecDepth 100000
set_option maxHeartbeats 8000000
attribute [local go_sem ↓] wp_at_zero wp_at_succ
theorem Iy(gu b0 B:Nat)(L:Bool)(u:UV)(M:A9)(page choice:Int)(w:World)(hp0:0<=page)(hp1:page<4096)(hc0:0<=choice)(hc1:choice<=65535)(hok:Cv M)(hB:B<=w.heap.size)(hwc:∀i,i<M.wc.length->((A8 AJ M.wc i).level=2\/(A8 AJ M.wc i).level=3)/\0<=(A8 AJ M.wc i).page/\(A8 AJ M.wc i).page<4096/\(A8 AJ M.wc i).page%Ab ((A8 AJ M.wc i).level-1)=0)(hst:1<=(Ar M page choice).level/\(Ar M page choice).level<=3/\0<=(Ar M page choice).table/\(Ar M page choice).table<BS M.mem.length)(hL:L=true\/∀l:Nat,1<=l->l<=3->BT choice l=false)(hp:L=true->∀i,i<M.pend.length->0<=(A8 AA M.pend i).addr)(h:UM w gu b0 B L u M):Calls prog 105 #[.pointer (some ⟨gu,0,none⟩),.int .i64 page,.int .i64 choice] w fun r w'=>r=.returned (DE (Ah M page choice).2)/\∃u',AT w w' gu b0 B L u u' (Ah M page choice).1:=by
 obtain⟨wb,hwb⟩:∃wb,wb=w.alloc (.cells #[.int .i64 0,.int .i64 0,.int .i64 0,.int .i64 0] 87):=⟨_,rfl⟩
 have hbb:Below w.heap.size w wb:=by rw[hwb];exact(Below.refl _ _).alloc (Nat.le_refl _) _
 have hzb:wb.heap.size=w.heap.size+1:=by rw[hwb];simp
 have hbg:=LW gu b0 B L u M page choice wb hp0 hp1 hc0 hc1 hok.c hwc (h.below hbb);have hwM:Fg page choice (3-(Ar M page choice).level).toNat M (Ar M page choice).level (Ar M page choice).table (Ar M page choice).doom=Ah M page choice:=rfl;have HWB:Hid (wb=_):=hwb;have HBB:Hid (Below _ w wb):=hbb;have HZ:Hid (wb.heap.size=w.heap.size+1):=hzb;have HUM:Hid _:=h;have HWM:Hid _:=hwM;have HP:Hid _:=hp;have HL:Hid _:=hL;have HOK:Hid _:=hok;rw[hwb] at hbg;generalize Ar M page choice=at0 at *;have hc16:=Ek at0.level;unfold DM at hbg;clear hwb hbb hzb hwc h hwM hp hL hok;go_enter func105,ntmps105
 go_wp2_with fail
 refine hbg.mono ?_;rintro e w1 ⟨rfl,hb1'⟩;have hb1:Below wb.heap.size wb w1:=by rw[HWB.out];exact hb1'
 have s1:=hb1.size;have hz:=HZ.out;obtain⟨wA,hwA⟩:∃wA,wA=w1.alloc (.cells #[.int .i64 at0.page,.int .i64 (16*Ab at0.level),.bool at0.doom,.int .i64 at0.level,.int .i64 at0.table] 158):=⟨_,rfl⟩
 have hzA:wA.heap.size=w1.heap.size+1:=by rw[hwA];simp
 have bA:Below wb.heap.size wb wA:=by rw[hwA];exact hb1.alloc (by omega) _
 have locA:Gq wA w.heap.size w1.heap.size at0:=by
  refine⟨⟨?_,?_,?_,?_⟩,⟨?_,?_,?_,?_⟩,⟨?_,?_,?_,?_,?_⟩,⟨?_,?_,?_,?_,?_⟩,by omega,by omega⟩;iterate 4 (exact(bA.cell (by simp;omega)).trans (by rw[HWB.out];simp[go_sem]))
  iterate 4 (exact(bA.frozen (by simp;omega)).trans (by rw[HWB.out];simp[go_sem]))
  all_goals (rw[hwA];simp[go_sem])
 have stA:AT w wA gu b0 B L u u M:=AT.refl HUM.out (HBB.out.trans (bA.mono (by omega)));have HAT:Hid (∃u1 M1 at1,Nl w wA gu b0 B L u M page choice w1.heap.size u1 M1 at1):=⟨u,M,at0,locA,by omega,stA,HWM.out,HOK.out,rfl,rfl,hst.1,hst.2.1,hst.2.2.1,hst.2.2.2,fun hk=>by have:=HUM.out.wr_lt _ hk;omega,fun hk=>by have:=HUM.out.wr_lt _ hk;omega⟩;have HWA:Hid (wA=_):=hwA;obtain⟨A,hA⟩:∃A,A=w1.heap.size:=⟨_,rfl⟩
 generalize 16*Ab at0.level=X0 at *;clear hb1 hb1' hbg bA locA stA hwA hst;go_wp2_with fail
 go_loopw [] (fun wr=>∃u1 M1 at1,Nl w wr gu b0 B L u M page choice w1.heap.size u1 M1 at1) (fun wr=>match wr.cell? ⟨w1.heap.size,3,none⟩ with|some (.int _ l)=>(3-l).toNat|_=>0)
 case atStart=>rw[<- HWA.out];exact HAT.out
 case round =>
  obtain⟨u1,M1,at1,hAt⟩:=hrel;obtain⟨W,rfl⟩:∃W:World,W=wr:=⟨_,rfl⟩
  have hn:=BP M.mem.length HOK.out.n0;have hnl:=Cd M.mem.length;have hix:=MJ page at1.level hp0 hp1;have l1:=hAt.l1;have l3:=hAt.l3;have t0:=hAt.t0;have t1:=hAt.t1;have hAz:=hAt.A0;have hAl:=hAt.loc.al;have hlt:=hAt.st.um.lt;obtain⟨Ad,hAd⟩:∃Ad:Nat,(Ad:Int)=at1.table*16+Ho page at1.level:=⟨(at1.table*16+Ho page at1.level).toNat,by omega⟩
  have hAd2:Ad<M1.mem.length:=by rw[hAt.mem];omega
  have hlev:at1.level=1\/at1.level=2\/at1.level=3:=by omega
  have hrl:BT choice at1.level.toNat=true->L=true:=fun e=>by
   rcases HL.out with h'|h'
   ·exact h'
   ·rw[h' _ (by omega) (by omega)] at e;cases e
  have hpp:L=true->∀i,i<M1.pend.length->0<=(A8 AA M1.pend i).addr:=by rw[hAt.pend];exact HP.out
  have hxr:=Hm hAt.ok page choice at1.level at1.table;have hxe:Ec M1 Ad (BT choice at1.level.toNat)=BA M1 page choice at1.level at1.table:=by unfold BA;rw[hAd]
  have HKL:Hid (∀wX,Below W.heap.size W wX->Gq wX w.heap.size w1.heap.size at1):=fun wX hX=>hAt.loc.below hX
  have HKU:Hid (∀wX,Below W.heap.size W wX->UM wX gu b0 B L u1 M1):=fun wX hX=>hAt.st.um.below hX
  have HADDR:Hid (∀wX,Below W.heap.size W wX->Calls prog 135 #[.pointer (some ⟨w1.heap.size,0,none⟩),.int .i64 page] wX fun e w'=>e=.returned (.int .i64 Ad)/\Below wX.heap.size wX w'):=fun wX hX=>by
   have h1:=Ll w1.heap.size page at1.level at1.table hp0 hp1 hlev t0 (by omega) wX (HKL.out wX hX).a.2.2.2.1 (HKL.out wX hX).a.2.2.2.2;rw[<- hAd] at h1;exact h1
  have hsee:=IJ choice at1.level hlev hc0 hc1;have HREAD:Hid (∀wX,Below W.heap.size W wX->Calls prog 134 #[.pointer (some ⟨gu,0,none⟩),.int .i64 Ad,.bool (BT choice at1.level.toNat)] wX fun e w'=>e=.returned (.int .u64 (BA M1 page choice at1.level at1.table))/\Below wX.heap.size wX w'):=fun wX hX=>by
   have h1:=Ky gu b0 B L u1 M1 Ad (BT choice at1.level.toNat) wX hAd2 hrl hpp (HKU.out wX hX);rw[hxe] at h1;exact h1
  have hdec:∀wX,Calls prog 133 #[.int .i64 at1.level,.int .u64 (BA M1 page choice at1.level at1.table)] wX fun e w'=>e=.returned (.agg #[.int .i64 (AZ at1.level (BA M1 page choice at1.level at1.table)),.int .i64 (Bz at1.level (BA M1 page choice at1.level at1.table)),.int .i64 (Bq at1.level (BA M1 page choice at1.level at1.table))])/\Below wX.heap.size wX w':=fun wX=>EF at1.level _ hxr.1 hxr.2 wX
  have HGO:Hid _:=hAt.go;have HAT1:Hid _:=hAt;obtain⟨a0,a1,a2,a3,a4⟩:=hAt.loc.a;generalize BT choice at1.level.toNat=late at *;obtain⟨X,hX⟩:∃X,X=BA M1 page choice at1.level at1.table:=⟨_,rfl⟩
  have HX:Hid (X=_):=hX;rw[<- hX] at hdec;have HREAD':Hid (∀wX,Below W.heap.size W wX->Calls prog 134 #[.pointer (some ⟨gu,0,none⟩),.int .i64 Ad,.bool late] wX fun e w'=>e=.returned (.int .u64 X)/\Below wX.heap.size wX w'):=by rw[hX];exact HREAD.out
  obtain⟨K,hK⟩:∃K,K=AZ at1.level X:=⟨_,rfl⟩
  obtain⟨O,hO⟩:∃O,O=Bz at1.level X:=⟨_,rfl⟩
  obtain⟨P,hP⟩:∃P,P=Bq at1.level X:=⟨_,rfl⟩
  have hOlo:=Cp at1.level X;rw[<- hO] at hOlo;rw[<- hK,<- hO,<- hP] at hdec;have HK:Hid (K=_):=hK;have HO:Hid (O=_):=hO;have HPP:Hid (P=_):=hP;clear hAt hxe hxr hpp hrl hAd2 hX hK hO hP HREAD a0 a1 a2 hix hAd;go_upto_region 2 with fail
  go_cut [8] (fun d wx=>∃D,d=.pointer (some ⟨D,0,none⟩)/\wx.cell? ⟨D,0,none⟩=some (.int .i64 K)/\wx.cell? ⟨D,1,none⟩=some (.int .i64 O)/\wx.cell? ⟨D,2,none⟩=some (.int .i64 P)/\W.heap.size<=D/\D<wx.heap.size/\Below W.heap.size W wx)
  case first =>
   (have HS:Hid (∀wX,Below W.heap.size W wX->wX.cell? ⟨w1.heap.size,3,none⟩=some (.int .i64 at1.level)):=fun wX hX=>(HKL.out wX hX).a.2.2.2.1);go_region_held3 (fun wX=>wX.cell? ⟨w1.heap.size,3,none⟩=some (.int .i64 at1.level))
    ((refine HS.out _ ?_;repeat (first|exact Below.refl _ _|with_reducible refine Below.drew ?_|with_reducible refine Below.setCell ?_ (by first|omega|(simp<;>omega)) _|with_reducible refine Below.alloc ?_ (by first|omega|(simp<;>omega)) _|refine Below.trans ?_ (hb4.mono (by first|omega|(simp<;>omega)))|refine Below.trans ?_ (hb3.mono (by first|omega|(simp<;>omega)))|refine Below.trans ?_ (hb2.mono (by first|omega|(simp<;>omega))))))
    (first
     | (go_at_call 135;refine(HADDR.out _ (by repeat (first|exact Below.refl _ _|with_reducible refine Below.drew ?_|with_reducible refine Below.alloc ?_ (by first|omega|(simp<;>omega)) _))).mono ?_;rintro e w2 ⟨rfl,hb2⟩;obtain⟨hc2,hf2⟩:=GN hb2;have hz2:=hb2.size;simp at hz2;try have e2:W.heap.size<w2.heap.size:=by omega)
     | (go_at_call 136;refine(hsee _).mono ?_;rintro e wE ⟨rfl,hwE⟩;obtain rfl:=hwE.symm)
     | (go_at_call 134;refine(HREAD'.out _ (by repeat (first|exact Below.refl _ _|with_reducible refine Below.drew ?_|with_reducible refine Below.alloc ?_ (by first|omega|(simp<;>omega)) _|refine Below.trans ?_ (hb2.mono (by first|omega|(simp<;>omega)))))).mono ?_;rintro e w3 ⟨rfl,hb3⟩;obtain⟨hc3,hf3⟩:=GN hb3;have hz3:=hb3.size;(try simp at hz3);(try have e3:W.heap.size<w3.heap.size:=by omega);try have e3':w2.heap.size<w3.heap.size:=by omega)
     | (go_at_call 133;refine(hdec _).mono ?_;rintro e w4 ⟨rfl,hb4⟩;obtain⟨hc4,hf4⟩:=GN hb4;have hz4:=hb4.size;(try simp at hz4);(try have e4:W.heap.size<w4.heap.size:=by omega);(try have e4':w2.heap.size<w4.heap.size:=by omega);try have e4'':w3.heap.size<w4.heap.size:=by omega))
   all_goals
    go_wp2_with fail
    go_meet
    case rel =>
     refine⟨_,rfl,?_,?_,?_,?_,?_,?_⟩
     ·first|(simp[go_sem,hc4,hc3,hc2,e2,e3];done)|(simp[go_sem,hc4,hc3,e3'];done)|(simp[go_sem,hc4];done)|simp[go_sem]
     ·first|(simp[go_sem,hc4,hc3,hc2,e2,e3];done)|(simp[go_sem,hc4,hc3,e3'];done)|(simp[go_sem,hc4];done)|simp[go_sem]
     ·first|(simp[go_sem,hc4,hc3,hc2,e2,e3];done)|(simp[go_sem,hc4,hc3,e3'];done)|(simp[go_sem,hc4];done)|simp[go_sem]
     ·first|omega|(simp<;>omega)
     ·first|omega|(simp<;>omega)
     ·repeat (first|exact Below.refl _ _|with_reducible refine Below.drew ?_|with_reducible refine Below.setCell ?_ (by first|omega|(simp<;>omega)) _|with_reducible refine Below.alloc ?_ (by first|omega|(simp<;>omega)) _|refine Below.trans ?_ (hb4.mono (by first|omega|(simp<;>omega)))|refine Below.trans ?_ (hb3.mono (by first|omega|(simp<;>omega)))|refine Below.trans ?_ (hb2.mono (by first|omega|(simp<;>omega))))
  case rest =>
   (obtain⟨wx,rfl⟩:∃wx:World,wx=wc:=⟨_,rfl⟩);obtain⟨D,rfl,y0,y1,y2,hD0,hD1,hbx⟩:=hcut;have sx:=hbx.size;have lx:=HKL.out wx hbx;have ux:=HKU.out wx hbx;have q0:=ux.q0;have hmem:=HAT1.out.mem;(have hhf:=fun wX=>D8 u1.a1 M1.mem.length u1.c1 O (BS M.mem.length) (by rw[hmem];exact hn.1) hOlo.1 (by rw[hmem];omega) wX);have nR:=HAT1.out.nR;have nA:=HAT1.out.nA;have HLX:Hid _:=lx;have HUX:Hid _:=ux;have HBX:Hid (Below W.heap.size W wx):=hbx;have hgx:=ux.lt;obtain⟨a0,a1,a2,a3',a4'⟩:=lx.a;have HSX:Hid (AT w wx gu b0 B L u u1 M1):=HAT1.out.st.trans (AT.refl HAT1.out.st.um hbx);(have HKX:Hid (∀wX,Below wx.heap.size wx wX->wX.cell? ⟨gu,0,none⟩=some (.slice u1.a1 M1.mem.length u1.c1)/\wX.cell? ⟨D,0,none⟩=some (.int .i64 K)/\wX.cell? ⟨D,1,none⟩=some (.int .i64 O)):=fun wX hX=>⟨(hX.cell (by simpa using hgx)).trans q0,(hX.cell (by simpa using hD1)).trans y0,(hX.cell (by simpa using hD1)).trans y1⟩);clear lx ux hbx hmem HADDR HREAD' hsee hdec HKL HKU a3 a4;by_cases hlead:K=1/\O<BS M.mem.length
   ·obtain⟨hK1,hO1⟩:=hlead;(have hk:(K != 1)=false:=by simpa using hK1);(have hO:decide (O<BS M.mem.length)=true:=by simpa using hO1);have hO2:=hO;rw[hO] at hhf;obtain⟨hl2,hgo⟩:=IN page choice M1 at1.level at1.table X at1.doom l1 l3 HX.out (by rw[<- HK.out];exact hK1) (by rw[<- HO.out,HAT1.out.mem];exact hO1);rw[<- HO.out] at hgo;have hgo2:=hgo.symm.trans HGO.out;have HGO2:Hid _:=hgo2;have HHF:Hid _:=hhf;have htp:=Cc (at1.level+1);have hcv:16*Ab (at1.level+1)=Ab at1.level:=by
     rcases(show at1.level=1\/at1.level=2 by omega) with h'|h'<;>rw[h']<;>decide
    have hcv2:Ab at1.level=16\/Ab at1.level=256:=by
     rcases(show at1.level=1\/at1.level=2 by omega) with h'|h'<;>rw[h']<;>decide
    rw[hcv] at htp;have hkt:=GV choice (at1.level+1) (by omega) hc0 hc1;rw[show (at1.level+1+2).toNat=(at1.level+3).toNat by congr 1;omega] at hkt;have HWI:Hid (∀wX,Below wx.heap.size wx wX->Calls prog 138 #[.pointer (some ⟨w1.heap.size,0,none⟩),.int .i64 page,.int .i64 (Ab at1.level)] wX fun e w'=>e=.returned (.agg #[.int .i64 (page-page%Ab at1.level),.int .i64 (Ab at1.level),.bool at1.doom])/\Below wX.heap.size wX w'):=fun wX hX =>
     GQ w1.heap.size 0 page (Ab at1.level) at1.doom hp0 (by omega) (by omega) wX (by have:=hX.size;omega) ((hX.cell (by simp;omega)).trans a2)
    have HCV:Hid _:=hcv;clear hK1 hO1 hO hgo hgo2 hhf hcv;(go_upto_region 3 with fail);go_region_held3 (fun wX=>wX.cell? ⟨gu,0,none⟩=some (.slice u1.a1 M1.mem.length u1.c1)/\wX.cell? ⟨D,0,none⟩=some (.int .i64 K)/\wX.cell? ⟨D,1,none⟩=some (.int .i64 O))
     ((refine HKX.out _ ?_;repeat (first|exact Below.refl _ _|with_reducible refine Below.drew ?_|refine Below.trans ?_ (hb2.mono (by first|omega|(simp<;>omega))))))
     (first|(go_at_call 127;refine(HHF.out _).mono ?_;rintro e w2 ⟨rfl,hb2⟩))
    have b2':Below wx.heap.size wx w2:=(Below.refl _ _).drew.trans (hb2.mono (by simp));have s2:=b2'.size;have x1:=(b2'.cell (p:=⟨D,1,none⟩) (by simpa using hD1)).trans y1;have x3:=(b2'.cell (p:=⟨w1.heap.size,3,none⟩) (by simp;omega)).trans a3';have x2:=(b2'.cell (p:=⟨w1.heap.size,2,none⟩) (by simp;omega)).trans a2;(have W1:IntKind.i64.wrap (at1.level+1)=at1.level+1:=by rw[IntKind.wrap_i64];omega);have HB2:Hid (Below wx.heap.size wx w2):=b2';(have HK2:Hid (∀wX,Below w2.heap.size w2 wX->wX.cell? ⟨D,1,none⟩=some (.int .i64 O)):=fun wX hX=>(hX.cell (by simp;omega)).trans x1);(have HFAR:Hid (∀(wX:World) (i:Nat) (v:Value),(wX.setCell ⟨w1.heap.size,i,none⟩ v).cell? ⟨D,1,none⟩=wX.cell? ⟨D,1,none⟩):=fun wX i v=>World.cell?_setCell_far _ _ _ _ (by show w1.heap.size≠D;omega));have lc2:=HLX.out.below b2';obtain⟨c0,c1,c2,c3,c4⟩:=lc2.a;obtain⟨d0,d1,d2,d3,d4⟩:=lc2.af;clear hb2 b2' y0 y1 y2 a0 a1 a2 a3' a4' q0;(go_upto_region 6 with fail);go_region_held3 (fun wX=>wX.cell? ⟨D,1,none⟩=some (.int .i64 O))
     ((first|(rw[HFAR.out,HFAR.out,HFAR.out,HFAR.out,HFAR.out];refine HK2.out _ ?_;repeat (first|exact Below.refl _ _|with_reducible refine Below.drew ?_|refine Below.trans ?_ (hb3.mono (by first|omega|(simp<;>omega)))))|(refine HK2.out _ ?_;repeat (first|exact Below.refl _ _|with_reducible refine Below.drew ?_|refine Below.trans ?_ (hb3.mono (by first|omega|(simp<;>omega)))))))
     (first
      | (go_at_call 102;refine(htp _).mono ?_;rintro e wE ⟨rfl,hwE⟩;obtain rfl:=hwE.symm)
      | (go_at_call 138;refine(HWI.out _ (by first|exact HB2.out.drew|exact HB2.out)).mono ?_;rintro e w3 ⟨rfl,hb3⟩;have hz3:=hb3.size;simp at hz3;have p0:=(hb3.cell (p:=⟨w1.heap.size,0,none⟩) (by simp;omega)).trans c0;have pf0:=(hb3.frozen (p:=⟨w1.heap.size,0,none⟩) (by simp;omega)).trans d0;have p1:=(hb3.cell (p:=⟨w1.heap.size,1,none⟩) (by simp;omega)).trans c1;have pf1:=(hb3.frozen (p:=⟨w1.heap.size,1,none⟩) (by simp;omega)).trans d1;have p2:=(hb3.cell (p:=⟨w1.heap.size,2,none⟩) (by simp;omega)).trans c2;have pf2:=(hb3.frozen (p:=⟨w1.heap.size,2,none⟩) (by simp;omega)).trans d2;have p3:=(hb3.cell (p:=⟨w1.heap.size,3,none⟩) (by simp;omega)).trans c3;have pf3:=(hb3.frozen (p:=⟨w1.heap.size,3,none⟩) (by simp;omega)).trans d3;have p4:=(hb3.cell (p:=⟨w1.heap.size,4,none⟩) (by simp;omega)).trans c4;have pf4:=(hb3.frozen (p:=⟨w1.heap.size,4,none⟩) (by simp;omega)).trans d4))
    have b23:Below w2.heap.size w2 w3:=(Below.refl _ _).drew.trans (hb3.mono (by simp));have b3:Below wx.heap.size wx w3:=HB2.out.trans (b23.mono (by omega));have s3:=b3.size;have lc3:=HLX.out.below b3;(obtain⟨wS,hwS⟩:∃wS,wS=((((w3.setCell ⟨w1.heap.size,0,none⟩ (.int .i64 (page-page%Ab at1.level))).setCell ⟨w1.heap.size,1,none⟩ (.int .i64 (Ab at1.level))).setCell ⟨w1.heap.size,2,none⟩ (.bool at1.doom)).setCell ⟨w1.heap.size,3,none⟩ (.int .i64 (at1.level+1))).setCell ⟨w1.heap.size,4,none⟩ (.int .i64 O):=⟨_,rfl⟩);have hfarS:∀k,k≠w1.heap.size->wS.heap[k]?=w3.heap[k]?:=fun k hk=>by
     rw[hwS,Below.heap_setCell _ _ _ _ (by exact hk),Below.heap_setCell _ _ _ _ (by exact hk),Below.heap_setCell _ _ _ _ (by exact hk),Below.heap_setCell _ _ _ _ (by exact hk),Below.heap_setCell _ _ _ _ (by exact hk)]
    (have hzS:wS.heap.size=w3.heap.size:=by rw[hwS];simp);have locS:Gq wS w.heap.size w1.heap.size ⟨at1.level+1,page-page%Ab at1.level,O,at1.doom⟩:=by
     have hrS:=hfarS w.heap.size (by omega);obtain⟨⟨r0,r1,r2,r3⟩,⟨g0,g1,g2,g3⟩,_⟩:=lc3;refine⟨⟨(World.cell?_of_block hrS).trans r0,(World.cell?_of_block hrS).trans r1,(World.cell?_of_block hrS).trans r2,(World.cell?_of_block hrS).trans r3⟩,⟨(World.frozen?_of_block hrS).trans g0,(World.frozen?_of_block hrS).trans g1,(World.frozen?_of_block hrS).trans g2,(World.frozen?_of_block hrS).trans g3⟩,?_,?_,by omega,by omega⟩
     ·show _/\wS.cell? ⟨w1.heap.size,1,none⟩=some (.int .i64 (16*Ab (at1.level+1)))/\_;rw[HCV.out,hwS];simp[go_sem,p0,p1,p2,p3,p4]
     ·rw[hwS];simp[pf0,pf1,pf2,pf3,pf4]
    have stS:AT w wS gu b0 B L u u1 M1:=by
     refine AT.own HUM.out (HSX.out.trans (AT.refl HUX.out b3)) ⟨?_,?_,?_,by omega,fun k hk hn2=>hfarS k hn2⟩ (R:=w1.heap.size) (by omega) nA;all_goals (rw[hwS];rfl)
    have a3W:=HAT1.out.loc.a.2.2.2.1;have HLS:Hid _:=locS;have HSS:Hid _:=stS;have HWS:Hid (wS=_):=hwS;have hX':Bz at1.level X=O:=HO.out.symm;rw[<- hwS];clear p0 p1 p2 p3 p4 pf0 pf1 pf2 pf3 pf4 hb3 b23 b3 lc3 lc2 locS stS hwS hfarS c0 c1 c2 c3 c4 d0 d1 d2 d3 d4 x1 x2 x3 htp;cases hbit:BT choice (at1.level+3).toNat
    ·rw[hbit] at hkt;(have hM:CE page choice M1 at1.level X at1.doom=M1:=by unfold CE;rw[if_neg (by rw[hbit];simp)]);have hg:=HGO2.out;rw[hM] at hg;have HG:Hid _:=hg;clear hbit hM hg;(go_wp2_with (go_at_call 139;refine(hkt _).mono ?_;rintro e wE ⟨rfl,hwE⟩;obtain rfl:=hwE.symm));go_roundw;(case rel=>exact⟨u1,M1,_,HLS.out,by omega,HSS.out,HG.out,HAT1.out.ok,HAT1.out.mem,HAT1.out.pend,by show 1<=at1.level+1;omega,by show at1.level+1<=3;omega,hOlo.1,by show O<_;simpa using hO2,nR,nA⟩);case measure =>
      have:=HLS.out.a.2.2.2.1;simp only[this,a3W];omega
    ·rw[hbit] at hkt;have hM:CE page choice M1 at1.level X at1.doom=⟨M1.mem,M1.pend,M1.tlb,Bn M1.wc ⟨at1.level+1,page-page%Ab at1.level,O,at1.doom⟩⟩:=by
      unfold CE;rw[if_pos hbit,hX',Kg]
     have hok2:=GL HAT1.out.ok page choice at1.level X at1.doom;have hg:=HGO2.out;rw[hM] at hg hok2;have HG:Hid _:=hg;have HOK2:Hid _:=hok2;(have hsB:B<=wS.heap.size:=by have:=HSS.out.tch.size;omega);have HADD:Hid (∀wX,Below wS.heap.size wS wX->Calls prog 140 #[.slice u1.a5 M1.wc.length u1.c5,.agg #[.int .i64 (page-page%Ab at1.level),.int .i64 (Ab at1.level),.bool at1.doom,.int .i64 (at1.level+1),.int .i64 O],.int .i64 256] wX fun r w'=>∃a' c',r=.returned (.slice a' (Bn M1.wc ⟨at1.level+1,page-page%Ab at1.level,O,at1.doom⟩).length c')/\A6 As w' B (.slice a' (Bn M1.wc ⟨at1.level+1,page-page%Ab at1.level,O,at1.doom⟩).length c') (Bn M1.wc ⟨at1.level+1,page-page%Ab at1.level,O,at1.doom⟩)/\wX.grownBy w' u1.o5/\(∀k,Al a'=some k->u1.o5=some k\/wX.heap.size<=k)):=fun wX hX=>by
      have h1:=Ju u1.a5 u1.c5 B M1.wc ⟨at1.level+1,page-page%Ab at1.level,O,at1.doom⟩ wX HAT1.out.ok.c (Nat.le_trans hsB hX.size) (HSS.out.um.c.below hX);unfold DM at h1;simp only at h1;rw[HCV.out] at h1;exact h1
     have q4:=HSS.out.um.q4;have f4':=HSS.out.um.f4;have hgS:=HSS.out.um.lt;obtain⟨v0,v1,v2,v3,v4⟩:=HLS.out.a;simp only at v1 v3;rw[HCV.out] at v1;have hRl:=HLS.out.rl;have hAl2:=HLS.out.al;clear hbit hM hg hok2;(go_upto_region 8 with(go_at_call 139;refine(hkt _).mono ?_;rintro e wE ⟨rfl,hwE⟩;obtain rfl:=hwE.symm));(go_region_with (go_at_call 140;refine(HADD.out _ (by first|exact Below.refl _ _|exact(Below.refl _ _).drew)).mono ?_;rintro e w4 ⟨a',c',rfl,hr4,hg4,ho4⟩;have hG4:=hg4.block gu (by simpa using hgS) (fun e=>HSS.out.um.ap.g5 e.symm);have x4:=(World.cell?_of_block (a:=⟨gu,4,none⟩) hG4).trans q4;have x4f:=(World.frozen?_of_block (a:=⟨gu,4,none⟩) hG4).trans f4'));all_goals
      have hR4:(w4.setCell ⟨gu,4,none⟩ (.slice a' (Bn M1.wc ⟨at1.level+1,page-page%Ab at1.level,O,at1.doom⟩).length c')).heap[w.heap.size]?=wS.heap[w.heap.size]?:=(Below.heap_setCell _ _ _ _ (fun e=>nR (.inl e))).trans (hg4.block _ (by simpa using hRl) (fun e=>nR (.inr (.inr e.symm))))
      have hA4:(w4.setCell ⟨gu,4,none⟩ (.slice a' (Bn M1.wc ⟨at1.level+1,page-page%Ab at1.level,O,at1.doom⟩).length c')).heap[w1.heap.size]?=wS.heap[w1.heap.size]?:=(Below.heap_setCell _ _ _ _ (fun e=>nA (.inl e))).trans (hg4.block _ (by simpa using hAl2) (fun e=>nA (.inr (.inr e.symm))))
      have st4:=UM.newWc (HSS.out.um.below (Below.refl _ _).drew) hg4 a' c' _ hr4 ho4
      have s4:=hg4.size
      simp at s4
      have HL4:Hid _:=HLS.out.of_blocks hR4 hA4 (by simpa using s4)
      have HS4:Hid _:=(HSS.out.trans (AT.refl HSS.out.um (Below.refl _ _).drew)).trans st4
      have hnR4:=st4.wr_new (R:=w.heap.size) (by simpa using hRl) nR
      have hnA4:=st4.wr_new (R:=w1.heap.size) (by simpa using hAl2) nA
      clear hR4 hA4 st4 x4 x4f hG4 hr4 hg4 ho4 v0 v1 v2 v3 v4
      go_wp2_with fail
      go_roundw
      case rel=>exact⟨_,_,_,HL4.out,by omega,HS4.out,HG.out,HOK2.out,HAT1.out.mem,HAT1.out.pend,by show 1<=at1.level+1;omega,by show at1.level+1<=3;omega,hOlo.1,by show O<_;simpa using hO2,hnR4,hnA4⟩
      case measure =>
       have:=HL4.out.a.2.2.2.1
       simp only[this,a3W]
       omega
   ·(go_upto_region 3 with fail);(go_cut [37] (fun c wy=>c=.bool true/\Below wx.heap.size wx wy));case first =>
     by_cases hK1:K=1
     ·(have hk:(K != 1)=false:=by simpa using hK1);(have hO:decide (O<BS M.mem.length)=false:=by simp only[decide_eq_false_iff_not];exact fun h'=>hlead ⟨hK1,h'⟩);rw[hO] at hhf;clear hK1 hO hlead;go_region_held3 (fun wX=>wX.cell? ⟨gu,0,none⟩=some (.slice u1.a1 M1.mem.length u1.c1)/\wX.cell? ⟨D,0,none⟩=some (.int .i64 K)/\wX.cell? ⟨D,1,none⟩=some (.int .i64 O))
       ((refine HKX.out _ ?_;repeat (first|exact Below.refl _ _|with_reducible refine Below.drew ?_|refine Below.trans ?_ (hb2.mono (by first|omega|(simp<;>omega))))))
       (first|(go_at_call 127;refine(hhf _).mono ?_;rintro e w2 ⟨rfl,hb2⟩))
      (go_wp2_with fail);(go_meet);case rel=>exact⟨rfl,(Below.refl _ _).drew.trans (hb2.mono (by simp))⟩
     ·(have hk:(K != 1)=true:=by simpa using hK1);clear hK1 hlead hhf;(go_quiet (fail));(go_wp2_with fail);(go_meet);case rel=>exact⟨rfl,AS (Below.refl _ _) _⟩
    case rest =>
     (obtain⟨wy,rfl⟩:∃wy:World,wy=wc:=⟨_,rfl⟩);obtain⟨rfl,hby⟩:=hcut;have sy:=hby.size;have loc:=HLX.out.below hby;have uy:=HUX.out.below hby;have x0:=(hby.cell (p:=⟨D,0,none⟩) (by simpa using hD1)).trans y0;have x1:=(hby.cell (p:=⟨D,1,none⟩) (by simpa using hD1)).trans y1;have x2:=(hby.cell (p:=⟨D,2,none⟩) (by simpa using hD1)).trans y2;obtain⟨b0',b1,b2,b3,b4⟩:=loc.a;have hend:=NA gu b0 B L u1 M1 page choice at1 X hp0 hp1 hc0 hc1 HAT1.out.ok.t wy (by have:=HUX.out.lt;have:=HSX.out.tch.size;omega) uy;have hge:=Jl page choice M1 at1.level at1.table X at1.doom l1 l3 HX.out (by rw[<- HK.out,<- HO.out,HAT1.out.mem];exact hlead);have hres:DN page choice M1 at1.level X at1.doom=Ah M page choice:=hge.symm.trans HGO.out;rw[<- HK.out,<- HO.out,<- HPP.out,hres] at hend;unfold DM DE at hend;have HY:Hid (AT w wy gu b0 B L u u1 M1):=HSX.out.trans (AT.refl HUX.out hby);have HLOC:Hid _:=loc;generalize 16*Ab at1.level=X1 at *;clear a0 a1 a2 a3' a4' y0 y1 y2 hby loc uy q0 hge hres hlead hhf HKX;(go_wp2_with fail);refine hend.mono ?_;rintro e w5 ⟨rfl,u2,st5⟩;have hr5:=st5.tch.block w.heap.size HLOC.out.rl nR;obtain⟨⟨r0,r1,r2,r3⟩,⟨g0,g1,g2,g3⟩,_⟩:=HLOC.out;have z0:=(World.cell?_of_block (a:=⟨w.heap.size,0,none⟩) hr5).trans r0;have z1:=(World.cell?_of_block (a:=⟨w.heap.size,1,none⟩) hr5).trans r1;have z2:=(World.cell?_of_block (a:=⟨w.heap.size,2,none⟩) hr5).trans r2;have z3:=(World.cell?_of_block (a:=⟨w.heap.size,3,none⟩) hr5).trans r3;have f0:=(World.frozen?_of_block (a:=⟨w.heap.size,0,none⟩) hr5).trans g0;have f1:=(World.frozen?_of_block (a:=⟨w.heap.size,1,none⟩) hr5).trans g1;have f2:=(World.frozen?_of_block (a:=⟨w.heap.size,2,none⟩) hr5).trans g2;have f3:=(World.frozen?_of_block (a:=⟨w.heap.size,3,none⟩) hr5).trans g3;have HST5:Hid _:=HY.out.trans st5;have hnR:=st5.wr_new HLOC.out.rl nR;clear hend hr5 r0 r1 r2 r3 g0 g1 g2 g3 b0' b1 b2 b3 b4 x0 x1 x2 st5;(go_wp2_with fail);refine bodyPost_ret (v:=.agg #[.int .i64 (Ah M page choice).2.kind,.int .i64 (Ah M page choice).2.out,.int .i64 (Ah M page choice).2.perm,.int .i64 (Ah M page choice).2.size]) (by simp[results,results105,go_sem,z0,z1,z2,z3]) rfl ⟨rfl,u2,?_⟩;refine AT.own HUM.out HST5.out ⟨rfl,rfl,rfl,by simp,fun k hk hn2=>?_⟩ (Nat.le_refl _) hnR;rw[Below.heap_setCell _ _ _ _ (by exact hn2),Below.heap_setCell _ _ _ _ (by exact hn2),Below.heap_setCell _ _ _ _ (by exact hn2),Below.heap_setCell _ _ _ _ (by exact hn2)]
end Go.Proofs.YtnmhkgmmpkjjeabGreat
