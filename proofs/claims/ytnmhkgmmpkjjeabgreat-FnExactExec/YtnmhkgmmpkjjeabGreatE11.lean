import Derived.Test.YtnmhkgmmpkjjeabGreatE10
namespace Go.Proofs.YtnmhkgmmpkjjeabGreat
open ChangeShapes WideShapes ChangeAt RowKit Proofs.Tryz
set_option linter.all false
set_option maxRecDepth 100000
set_option maxHeartbeats 4000000
section
attribute [local go_sem ↓] wp_at_zero wp_at_succ
theorem DC(f:Nat->Bool)(j:Nat):(List.range (j+1)).all f=((List.range j).all f&&f j):=by
 simp[List.range_succ,List.all_append]
theorem Ci(f:Nat->Bool)(i m:Nat)(hi:i<m)(h:f i=false):(List.range m).all f=false:=by
 rw[List.all_eq_false];exact⟨i,List.mem_range.2 hi,by simpa using h⟩
def D3 (n:Nat) (e:BJ):Bool:=decide (0<=e.addr)&&decide (e.addr<n)
def CY (M:A9):Bool:=!decide (BS M.mem.length=0)&&decide (M.pend.length<=10000)&&decide (M.tlb.length<=256)&&decide (M.wc.length<=256)
def C6 (M:A9) (k:Nat):Bool:=(List.range k).all fun i=>D3 M.mem.length (A8 AA M.pend i)
def CO (M:A9) (k:Nat):Bool:=(List.range k).all fun i=>AH (A8 A7 M.tlb i)
def DK (M:A9) (k:Nat):Bool:=(List.range k).all fun i=>AX (BS M.mem.length) (A8 AJ M.wc i)
def AG (M:A9):Bool:=CY M&&C6 M M.pend.length&&CO M M.tlb.length&&DK M M.wc.length
theorem Lj(s:SV)(M:A9)(b:Nat)(w:World)(hs:M.Small)(h:AB w b (s.mv M) M)(hv:CY M=false):Calls prog 34 #[.agg #[.slice s.a1 M.mem.length s.c1,.slice s.a2 M.pend.length s.c2,.slice s.a3 M.tlb.length s.c3,.slice s.a4 M.wc.length s.c4]] w fun e w'=>e=.returned (.bool false)/\Below w.heap.size w w':=by
 have y1:=hs.w;have y2:=hs.p;have y3:=hs.t;have y4:=hs.c;have hf:=CQ s.a1 M.mem.length s.c1 (by omega);unfold CY at hv;by_cases h0:BS M.mem.length=0
 ·rw[h0] at hf;clear hv h0;go_enter func34,ntmps34
  go_wp2_with (go_at_call 86;refine(hf _).mono ?_;rintro e w1 ⟨rfl,hb1⟩;obtain⟨hc1,hf1⟩:=Cy hb1)
  go_ret;exact⟨rfl,((Below.refl _ _).alloc (Nat.le_refl _) _).trans (hb1.mono (by simp))⟩
 ·have h0':(BS M.mem.length==0)=false:=by simpa using h0
  simp only[h0,decide_false,Bool.not_false,Bool.true_and] at hv;generalize BS M.mem.length=n at *;by_cases h1:M.pend.length<=10000
  ·(have h1':decide ((10000:Int)<M.pend.length)=false:=by simp;omega);simp only[h1,decide_true,Bool.true_and] at hv;by_cases h2:M.tlb.length<=256
   ·(have h2':decide ((256:Int)<M.tlb.length)=false:=by simp;omega);simp only[h2,decide_true,Bool.true_and] at hv;(have h3':decide ((256:Int)<M.wc.length)=true:=by simp at hv ⊢;omega);clear hv h0 h1 h2;(go_enter func34,ntmps34);(go_wp2_with (go_at_call 86;refine(hf _).mono ?_;rintro e w1 ⟨rfl,hb1⟩;obtain⟨hc1,hf1⟩:=Cy hb1));go_ret;exact⟨rfl,((Below.refl _ _).alloc (Nat.le_refl _) _).trans (hb1.mono (by simp))⟩
   ·(have h2':decide ((256:Int)<M.tlb.length)=true:=by simp;omega);clear hv h0 h1 h2;(go_enter func34,ntmps34);(go_wp2_with (go_at_call 86;refine(hf _).mono ?_;rintro e w1 ⟨rfl,hb1⟩;obtain⟨hc1,hf1⟩:=Cy hb1));go_ret;exact⟨rfl,((Below.refl _ _).alloc (Nat.le_refl _) _).trans (hb1.mono (by simp))⟩
  ·(have h1':decide ((10000:Int)<M.pend.length)=true:=by simp;omega);clear hv h0 h1;(go_enter func34,ntmps34);(go_wp2_with (go_at_call 86;refine(hf _).mono ?_;rintro e w1 ⟨rfl,hb1⟩;obtain⟨hc1,hf1⟩:=Cy hb1));go_ret;exact⟨rfl,((Below.refl _ _).alloc (Nat.le_refl _) _).trans (hb1.mono (by simp))⟩
theorem LP(s:SV)(M:A9)(b:Nat)(w:World)(hs:M.Small)(h:AB w b (s.mv M) M)(hv:CY M=true):Calls prog 34 #[.agg #[.slice s.a1 M.mem.length s.c1,.slice s.a2 M.pend.length s.c2,.slice s.a3 M.tlb.length s.c3,.slice s.a4 M.wc.length s.c4]] w fun e w'=>e=.returned (.bool (AG M))/\Below w.heap.size w w':=by
 have y1:=hs.w;have y2:=hs.p;have y3:=hs.t;have y4:=hs.c;have hf:=CQ s.a1 M.mem.length s.c1 (by omega);have hvb:AG M=(C6 M M.pend.length&&CO M M.tlb.length&&DK M M.wc.length):=by unfold AG;rw[hv,Bool.true_and]
 simp only[CY,Bool.and_eq_true,Bool.not_eq_true',decide_eq_false_iff_not,decide_eq_true_eq] at hv;obtain⟨⟨⟨v0,v1⟩,v2⟩,v3⟩:=hv;have d0:(BS M.mem.length==0)=false:=by simpa using v0
 have d1:decide ((10000:Int)<M.pend.length)=false:=by simp;omega
 have d2:decide ((256:Int)<M.tlb.length)=false:=by simp;omega
 have d3:decide ((256:Int)<M.wc.length)=false:=by simp;omega
 obtain⟨wb,hwb⟩:∃wb,wb=w.alloc (.cells #[.slice s.a1 M.mem.length s.c1,.slice s.a2 M.pend.length s.c2,.slice s.a3 M.tlb.length s.c3,.slice s.a4 M.wc.length s.c4] 36):=⟨_,rfl⟩
 have hbb:Below w.heap.size w wb:=by rw[hwb];exact(Below.refl _ _).alloc (Nat.le_refl _) _
 have hzb:wb.heap.size=w.heap.size+1:=by rw[hwb];simp
 have qb:wb.cell? ⟨w.heap.size,0,none⟩=some (.slice s.a1 M.mem.length s.c1)/\wb.cell? ⟨w.heap.size,1,none⟩=some (.slice s.a2 M.pend.length s.c2)/\wb.cell? ⟨w.heap.size,2,none⟩=some (.slice s.a3 M.tlb.length s.c3)/\wb.cell? ⟨w.heap.size,3,none⟩=some (.slice s.a4 M.wc.length s.c4):=by rw[hwb];simp[go_sem]
 have HBOX:Hid (∀wX,Below (w.heap.size+1) wb wX->wX.cell? ⟨w.heap.size,0,none⟩=some (.slice s.a1 M.mem.length s.c1)/\wX.cell? ⟨w.heap.size,1,none⟩=some (.slice s.a2 M.pend.length s.c2)/\wX.cell? ⟨w.heap.size,2,none⟩=some (.slice s.a3 M.tlb.length s.c3)/\wX.cell? ⟨w.heap.size,3,none⟩=some (.slice s.a4 M.wc.length s.c4)) :=
  fun wX hX=>⟨(hX.cell (by simp)).trans qb.1,(hX.cell (by simp)).trans qb.2.1,(hX.cell (by simp)).trans qb.2.2.1,(hX.cell (by simp)).trans qb.2.2.2⟩
 have HM:Hid (AB w b (s.mv M) M):=h;have HWB:Hid (wb=_):=hwb;have HBB:Hid (Below _ w wb):=hbb;have HVB:Hid _:=hvb;have hok:=M7 (BS M.mem.length);have HOK:Hid _:=hok;have hAdef:∀k,DK M (k+1)=(DK M k&&AX (BS M.mem.length) (A8 AJ M.wc k)):=fun k=>DC _ k
 have HAD:Hid _:=hAdef;have hAfal:∀k,k<M.wc.length->AX (BS M.mem.length) (A8 AJ M.wc k)=false->DK M M.wc.length=false:=fun k hk h=>Ci _ k _ hk h
 have HAF:Hid _:=hAfal;clear hwb hbb qb h hvb hok hAdef hAfal v0;generalize BS M.mem.length=n at *;go_enter func34,ntmps34
 go_wp2_with fail
 refine(hf _).mono ?_;rintro e w1 ⟨rfl,hb1⟩;have b1:Below (w.heap.size+1) wb w1:=by rw[HWB.out];exact hb1.mono (by simp)
 obtain⟨q0,q1,q2,q3⟩:=HBOX.out w1 b1;clear hb1 hf;go_wp2_with fail
 go_loopw [4] (fun iv wr=>∃i:Nat,i<=M.pend.length/\iv=.int .i64 i/\C6 M i=true/\Below (w.heap.size+1) wb wr) (fun iv _=>M.pend.length-(intOf iv).toNat)
 case atStart=>exact⟨0,Nat.zero_le _,rfl,rfl,b1⟩
 case round =>
  obtain⟨i,hi,rfl,hall,hb⟩:=hrel;obtain⟨q0,q1,q2,q3⟩:=HBOX.out wr hb;have hsz:=hb.size;by_cases hlt:i<M.pend.length
  ·have hsu:C6 M (i+1)=(C6 M i&&D3 M.mem.length (A8 AA M.pend i)):=DC _ i;(have hfa:D3 M.mem.length (A8 AA M.pend i)=false->AG M=false:=fun h=>by rw[HVB.out,show C6 M M.pend.length=false from Ci _ i _ hlt h];rfl);rw[hall,Bool.true_and] at hsu;have hdef:D3 M.mem.length (A8 AA M.pend i)=(decide (0<=(A8 AA M.pend i).addr)&&decide ((A8 AA M.pend i).addr<M.mem.length)):=rfl;obtain⟨ga,ca,hae,haf⟩:=HM.out.p.form;obtain⟨g,N,f,hag,_,hr,hN,hf⟩:=haf (by omega);have hga:s.a2=some ⟨g,0,none⟩:=by
    have h2:Value.slice s.a2 M.pend.length s.c2=.slice ga M.pend.length ca:=hae;simp only[Value.slice.injEq] at h2;exact h2.1.trans hag
   have hN':M.pend.length*2<=N:=hN;have hb2:Below w.heap.size w wr:=HBB.out.trans (hb.mono (by omega));have hr1:wr.rowIs g 110 N f:=hr.of_block (hb2.block g hr.lt);rw[hga] at q1;have k0:=hr1.cell (i:=i*2) (by omega);rw[show f (i*2)=.int .i64 (A8 AA M.pend i).addr from hf i hlt 0 (by decide)] at k0;have k1:=hr1.cell (i:=i*2+1) (by omega);rw[show f (i*2+1)=.int .u64 (A8 AA M.pend i).word from hf i hlt 1 (by decide)] at k1;(have L1:(0:Int)<=(i:Int):=by omega);(have L2:(i:Int)<(M.pend.length:Int):=by omega);have HB:Hid (Below _ wb wr):=hb;have hrl:=hr1.lt;clear hb hb2 hr1 hr hf hae haf hga hN;have HSU:Hid _:=hsu;have HFA:Hid _:=hfa;have HDF:Hid _:=hdef;clear hsu hfa hdef hall k1;generalize (A8 AA M.pend i).addr=A at *;by_cases hA:A<0
   ·(have hA':decide (A<0)=true:=by simpa using hA);have HR:Hid (AG M=false):=HFA.out (by rw[HDF.out];simp;omega);clear HFA HSU HDF;(go_wp2_with fail);(go_quiet (fail));(go_wp2_with fail);go_ret;exact⟨by rw[HR.out];rfl,HBB.out.trans ((AS HB.out _).mono (by omega))⟩
   ·(have hA':decide (A<0)=false:=by simpa using hA);by_cases hA2:A<M.mem.length
    ·(have hA2':decide ((M.mem.length:Int)<=A)=false:=by simp;omega);have HR:Hid (C6 M (i+1)=true):=by
      exact(show _=true by rw[HSU.out,HDF.out];simp;omega)
     clear HFA HSU HDF;(go_wp2_with fail);(go_quiet (fail));(go_wp2_with fail);go_roundw;(case rel=>exact⟨i+1,by omega,by go_num,HR.out,AS HB.out _⟩);case measure=>simp[intOf];omega
    ·(have hA2':decide ((M.mem.length:Int)<=A)=true:=by simp;omega);have HR:Hid (AG M=false):=HFA.out (by rw[HDF.out];simp;omega);clear HFA HSU HDF;(go_wp2_with fail);(go_quiet (fail));(go_wp2_with fail);go_ret;exact⟨by rw[HR.out];rfl,HBB.out.trans ((AS HB.out _).mono (by omega))⟩
  ·(have e:i=M.pend.length:=by omega);subst e;have HPA:Hid _:=hall;(obtain⟨wp,rfl⟩:∃wp:World,wp=wr:=⟨_,rfl⟩);clear hall;(go_wp2_with fail);(go_loopw [5] (fun iv wr=>∃i:Nat,i<=M.tlb.length/\iv=.int .i64 i/\CO M i=true/\Below (w.heap.size+1) wb wr) (fun iv _=>M.tlb.length-(intOf iv).toNat));(case atStart=>exact⟨0,Nat.zero_le _,rfl,rfl,hb⟩);case round =>
    clear q0 q1 q2 q3 hb;obtain⟨i,hi,rfl,hall,hb⟩:=hrel;obtain⟨q0,q1,q2,q3⟩:=HBOX.out wr hb;have hsz:=hb.size;by_cases hlt:i<M.tlb.length
    ·have hsu:CO M (i+1)=(CO M i&&AH (A8 A7 M.tlb i)):=DC _ i;(have hfa:AH (A8 A7 M.tlb i)=false->AG M=false:=fun h=>by rw[HVB.out,show CO M M.tlb.length=false from Ci _ i _ hlt h,Bool.and_false];rfl);rw[hall,Bool.true_and] at hsu;have hok:=Kv (A8 A7 M.tlb i);obtain⟨ga,ca,hae,haf⟩:=HM.out.t.form;obtain⟨g,N,f,hag,_,hr,hN,hf⟩:=haf (by omega);have hga:s.a3=some ⟨g,0,none⟩:=by
      have h2:Value.slice s.a3 M.tlb.length s.c3=.slice ga M.tlb.length ca:=hae;simp only[Value.slice.injEq] at h2;exact h2.1.trans hag
     have hN':M.tlb.length*5<=N:=hN;have hb2:Below w.heap.size w wr:=HBB.out.trans (hb.mono (by omega));have hr1:wr.rowIs g 81 N f:=hr.of_block (hb2.block g hr.lt);rw[hga] at q2;have k0:=hr1.cell (i:=i*5) (by omega);rw[show f (i*5)=.int .i64 (A8 A7 M.tlb i).page from hf i hlt 0 (by decide)] at k0;have k1:=hr1.cell (i:=i*5+1) (by omega);rw[show f (i*5+1)=.int .i64 (A8 A7 M.tlb i).size from hf i hlt 1 (by decide)] at k1;have k2:=hr1.cell (i:=i*5+2) (by omega);rw[show f (i*5+2)=.int .i64 (A8 A7 M.tlb i).out from hf i hlt 2 (by decide)] at k2;have k3:=hr1.cell (i:=i*5+3) (by omega);rw[show f (i*5+3)=.int .i64 (A8 A7 M.tlb i).perm from hf i hlt 3 (by decide)] at k3;have k4:=hr1.cell (i:=i*5+4) (by omega);rw[show f (i*5+4)=.bool (A8 A7 M.tlb i).doom from hf i hlt 4 (by decide)] at k4;(have L1:(0:Int)<=(i:Int):=by omega);(have L2:(i:Int)<(M.tlb.length:Int):=by omega);have HB:Hid (Below _ wb wr):=hb;have hrl:=hr1.lt;clear hb hb2 hr1 hr hf hae haf hga hN;have HSU:Hid _:=hsu;have HFA:Hid _:=hfa;have HOKT:Hid _:=hok;clear hsu hfa hall hok;(go_wp2_with fail);refine(HOKT.out _).mono ?_;rintro e w2 ⟨rfl,hb2⟩;have b2:Below (w.heap.size+1) wb w2:=HB.out.trans (hb2.mono (by omega));cases hT:AH (A8 A7 M.tlb i)
     ·have HR:Hid (AG M=false):=HFA.out hT;clear HFA HSU hT hb2;(go_wp2_with fail);go_ret;exact⟨by rw[HR.out];rfl,HBB.out.trans (b2.mono (by omega))⟩
     ·have HR:Hid (CO M (i+1)=true):=HSU.out.trans hT;clear HFA HSU hT hb2;(go_wp2_with fail);go_roundw;(case rel=>exact⟨i+1,by omega,by go_num,HR.out,b2⟩);case measure=>simp[intOf];omega
    ·(have e:i=M.tlb.length:=by omega);subst e;have HTA:Hid _:=hall;(obtain⟨wt,rfl⟩:∃wt:World,wt=wr:=⟨_,rfl⟩);clear hall;(go_wp2_with fail);(go_loopw [6] (fun iv wr=>∃i:Nat,i<=M.wc.length/\iv=.int .i64 i/\DK M i=true/\Below (w.heap.size+1) wb wr) (fun iv _=>M.wc.length-(intOf iv).toNat));(case atStart=>exact⟨0,Nat.zero_le _,rfl,rfl,hb⟩);case round =>
      clear q0 q1 q2 q3 hb;obtain⟨i,hi,rfl,hall,hb⟩:=hrel;obtain⟨q0,q1,q2,q3⟩:=HBOX.out wr hb;have hsz:=hb.size;by_cases hlt:i<M.wc.length
      ·have hsu:=HAD.out i;(have hfa:AX n (A8 AJ M.wc i)=false->AG M=false:=fun h=>by rw[HVB.out,HAF.out i hlt h,Bool.and_false]);rw[hall,Bool.true_and] at hsu;have hok:=HOK.out (A8 AJ M.wc i);obtain⟨ga,ca,hae,haf⟩:=HM.out.c.form;obtain⟨g,N,f,hag,_,hr,hN,hf⟩:=haf (by omega);have hga:s.a4=some ⟨g,0,none⟩:=by
        have h2:Value.slice s.a4 M.wc.length s.c4=.slice ga M.wc.length ca:=hae;simp only[Value.slice.injEq] at h2;exact h2.1.trans hag
       have hN':M.wc.length*4<=N:=hN;have hb2:Below w.heap.size w wr:=HBB.out.trans (hb.mono (by omega));have hr1:wr.rowIs g 113 N f:=hr.of_block (hb2.block g hr.lt);rw[hga] at q3;have k0:=hr1.cell (i:=i*4) (by omega);rw[show f (i*4)=.int .i64 (A8 AJ M.wc i).level from hf i hlt 0 (by decide)] at k0;have k1:=hr1.cell (i:=i*4+1) (by omega);rw[show f (i*4+1)=.int .i64 (A8 AJ M.wc i).page from hf i hlt 1 (by decide)] at k1;have k2:=hr1.cell (i:=i*4+2) (by omega);rw[show f (i*4+2)=.int .i64 (A8 AJ M.wc i).table from hf i hlt 2 (by decide)] at k2;have k3:=hr1.cell (i:=i*4+3) (by omega);rw[show f (i*4+3)=.bool (A8 AJ M.wc i).doom from hf i hlt 3 (by decide)] at k3;(have L1:(0:Int)<=(i:Int):=by omega);(have L2:(i:Int)<(M.wc.length:Int):=by omega);have HB:Hid (Below _ wb wr):=hb;have hrl:=hr1.lt;clear hb hb2 hr1 hr hf hae haf hga hN;have HSU:Hid _:=hsu;have HFA:Hid _:=hfa;have HOKT:Hid _:=hok;clear hsu hfa hall hok;(go_wp2_with fail);refine(HOKT.out _).mono ?_;rintro e w2 ⟨rfl,hb2⟩;have b2:Below (w.heap.size+1) wb w2:=HB.out.trans (hb2.mono (by omega));cases hT:AX n (A8 AJ M.wc i)
       ·have HR:Hid (AG M=false):=HFA.out hT;clear HFA HSU hT hb2;(go_wp2_with fail);go_ret;exact⟨by rw[HR.out];rfl,HBB.out.trans (b2.mono (by omega))⟩
       ·have HR:Hid (DK M (i+1)=true):=HSU.out.trans hT;clear HFA HSU hT hb2;(go_wp2_with fail);go_roundw;(case rel=>exact⟨i+1,by omega,by go_num,HR.out,b2⟩);case measure=>simp[intOf];omega
      ·(have e:i=M.wc.length:=by omega);subst e;(have hvt:AG M=true:=by rw[HVB.out,HPA.out,HTA.out,hall];rfl);have HVT:Hid _:=hvt;clear hall hvt;(go_wp2_with fail);go_ret;exact⟨by rw[HVT.out];rfl,HBB.out.trans (hb.mono (by omega))⟩
end
theorem Aw(s:SV)(M:A9)(b:Nat)(w:World)(hs:M.Small)(h:AB w b (s.mv M) M):Calls prog 34 #[.agg #[.slice s.a1 M.mem.length s.c1,.slice s.a2 M.pend.length s.c2,.slice s.a3 M.tlb.length s.c3,.slice s.a4 M.wc.length s.c4]] w fun e w'=>e=.returned (.bool (AG M))/\Below w.heap.size w w':=by
 cases hv:CY M
 ·have:AG M=false:=by unfold AG;rw[hv];rfl
  rw[this];exact Lj s M b w hs h hv
 ·exact LP s M b w hs h hv
def C5 (M:A9) (a:Int):Nat->Int
 | 0=>M.mem.getD a.toNat 0
 | k+1=>if (A8 AA M.pend k).addr=a then (A8 AA M.pend k).word else C5 M a k
def Ec (M:A9) (a:Int) (late:Bool):Int:=if late then C5 M a M.pend.length else M.mem.getD a.toNat 0
theorem ML{W:World}{b:Nat}{s:SV}{M:A9}(h:AB W b (s.mv M) M)(A:Nat)(hA:A<M.mem.length):∃g,s.a1=some ⟨g,0,none⟩/\g<W.heap.size/\W.cell? ⟨g,A,none⟩=some (.int .u64 (M.mem.getD A 0)):=by
 obtain⟨ga,ca,hae,haf⟩:=Be h.w;obtain⟨g,N,f,hag,_,hr,hN,hf⟩:=haf (by omega);have h2:Value.slice s.a1 M.mem.length s.c1=.slice ga M.mem.length ca:=hae;simp only[Value.slice.injEq] at h2;have c:=hr.cell (i:=A) (by omega);rw[hf A hA] at c;exact⟨g,h2.1.trans hag,hr.lt,c⟩
theorem Lc(s:SV)(M:A9)(b:Nat)(A:Nat)(late:Bool)(w:World)(hs:M.Small)(hA:A<M.mem.length)(h:AB w b (s.mv M) M):Calls prog 122 #[.agg #[.slice s.a1 M.mem.length s.c1,.slice s.a2 M.pend.length s.c2,.slice s.a3 M.tlb.length s.c3,.slice s.a4 M.wc.length s.c4],.int .i64 A,.bool late] w fun e w'=>e=.returned (.int .u64 (Ec M A late))/\Below w.heap.size w w':=by
 have y1:=hs.w;have y2:=hs.p;obtain⟨gm,hgm,hgl,hcm⟩:=ML h A hA;have htn:(A:Int).toNat=A:=by omega
 have A1:(0:Int)<=(A:Int):=by omega
 have A2:(A:Int)<(M.mem.length:Int):=by omega
 cases late
 ·have hr:Ec M A false=M.mem.getD A 0:=by simp[Ec]
  rw[hr,hgm];generalize M.mem.getD A 0=X at *;clear hr hgm h;go_enter func122,ntmps122
  go_wp2_with fail
  go_ret;exact⟨rfl,(Below.refl _ _).alloc (Nat.le_refl _) _⟩
 ·have hr:Ec M A true=C5 M A M.pend.length:=rfl;rw[hr];have hr0:C5 M A 0=M.mem.getD A 0:=by simp[C5]
  obtain⟨wb,hwb⟩:∃wb,wb=w.alloc (.cells #[.slice s.a1 M.mem.length s.c1,.slice s.a2 M.pend.length s.c2,.slice s.a3 M.tlb.length s.c3,.slice s.a4 M.wc.length s.c4] 36):=⟨_,rfl⟩
  have hbb:Below w.heap.size w wb:=by rw[hwb];exact(Below.refl _ _).alloc (Nat.le_refl _) _
  have q0:wb.cell? ⟨w.heap.size,0,none⟩=some (.slice s.a1 M.mem.length s.c1):=by rw[hwb];simp[go_sem]
  have q1:wb.cell? ⟨w.heap.size,1,none⟩=some (.slice s.a2 M.pend.length s.c2):=by rw[hwb];simp[go_sem]
  have cm:=(hbb.cell (p:=⟨gm,A,none⟩) (by simpa using hgl)).trans hcm;have HP:Hid (A6 AA wb b (.slice s.a2 M.pend.length s.c2) M.pend):=h.p.below hbb;have HBB:Hid (Below _ w wb):=hbb;have HWB:Hid (wb=_):=hwb;have HR0:Hid _:=hr0;have HGM:Hid (s.a1=_):=hgm;have HC:Hid (wb.cell? ⟨w.heap.size,0,none⟩=some (.slice s.a1 M.mem.length s.c1)/\wb.cell? ⟨w.heap.size,1,none⟩=some (.slice s.a2 M.pend.length s.c2)/\wb.cell? ⟨gm,A,none⟩=some (.int .u64 (M.mem.getD A 0))):=⟨q0,q1,cm⟩;clear h hbb hwb hr0 hgm q0 q1 cm hcm hr;go_enter func122,ntmps122
  go_wp2_with fail
  go_loopw [7] (fun iv wr=>∃k:Nat,k<=M.pend.length/\iv=.int .i64 ((k:Int)-1)/\C5 M A M.pend.length=C5 M A k/\wr=wb) (fun iv _=>(intOf iv+1).toNat)
  case atStart=>exact⟨M.pend.length,Nat.le_refl _,rfl,rfl,HWB.out.symm⟩
  case round =>
   obtain⟨k,hk,rfl,hrd,rfl⟩:=hrel;obtain⟨q0,q1,cm⟩:=HC.out;cases k with
   | zero =>
    have HRD:Hid _:=hrd.trans HR0.out;rw[HGM.out] at q0;clear hrd;generalize M.mem.getD A 0=X at *;(go_wp2_with fail);go_ret;exact⟨by rw[HRD.out];rfl,HBB.out⟩
   | succ i =>
    obtain⟨ga,ca,hae,haf⟩:=HP.out.form;obtain⟨g,N,f,hag,_,hr,hN,hf⟩:=haf (by omega);have hga:s.a2=some ⟨g,0,none⟩:=by
     simp only[Value.slice.injEq] at hae;exact hae.1.trans hag
    have hN':M.pend.length*2<=N:=hN;rw[hga] at q1;have k0:=hr.cell (i:=i*2) (by omega);rw[show f (i*2)=.int .i64 (A8 AA M.pend i).addr from hf i (by omega) 0 (by decide)] at k0;have k1:=hr.cell (i:=i*2+1) (by omega);rw[show f (i*2+1)=.int .u64 (A8 AA M.pend i).word from hf i (by omega) 1 (by decide)] at k1;have hst:C5 M A (i+1)=if (A8 AA M.pend i).addr=(A:Int) then (A8 AA M.pend i).word else C5 M A i:=rfl;(have L1:(0:Int)<=((i+1:Nat):Int)-1:=by omega);(have L2:((i+1:Nat):Int)-1<(M.pend.length:Int):=by omega);(have L3:(((i+1:Nat):Int)-1).toNat=i:=by omega);(have L4:((i+1:Nat):Int)-1=(i:Int):=by omega);rw[L4];rw[L4] at L1 L2;have HRD:Hid _:=hrd;have HST:Hid _:=hst;clear hrd hst hr hf hae haf hga hN L3 L4;generalize (A8 AA M.pend i).addr=B at *;generalize (A8 AA M.pend i).word=C at *;by_cases hB:B=(A:Int)
    ·(have hB':(B==(A:Int))=true:=by simpa using hB);(have hv:C5 M A M.pend.length=C:=by rw[HRD.out,HST.out,if_pos hB]);have HV:Hid _:=hv;clear hB hv;(go_wp2_with fail);go_ret;exact⟨by rw[HV.out];rfl,HBB.out⟩
    ·(have hB':(B==(A:Int))=false:=by simpa using hB);(have hv:C5 M A M.pend.length=C5 M A i:=by rw[HRD.out,HST.out,if_neg hB]);have HV:Hid _:=hv;clear hB hv;(go_wp2_with fail);go_roundw;(case rel=>exact⟨i,by omega,rfl,HV.out,by first|trivial|rfl⟩);case measure=>simp[intOf]<;>omega
structure IR where
 kind:Int
 out:Int
 perm:Int
 size:Int
def DE (h:IR):Value:=.agg #[.int .i64 h.kind,.int .i64 h.out,.int .i64 h.perm,.int .i64 h.size]
def BW (f:Nat->Bool) (n:Nat):Bool:=(List.range n).any f
theorem KV(f:Nat->Bool):BW f 0=false:=rfl
theorem Ck(f:Nat->Bool)(n:Nat):BW f (n+1)=(BW f n||f n):=by simp[BW,List.range_succ,List.any_append]
theorem BF(f:Nat->Bool)(i n:Nat)(hi:i<n)(h:f i=true):BW f n=true:=by
 unfold BW;rw[List.any_eq_true];exact⟨i,by simpa using hi,h⟩
def CW (f:Nat->Bool):Nat->Nat->Nat
 | 0,i=>i
 | n+1,i=>if f i then i else CW f n (i+1)
def BY (a b:CI):Bool:=decide (a.level=b.level)&&decide (a.page=b.page)&&decide (a.table=b.table)&&(a.doom==b.doom)
def Az (a b:Am):Bool:=BH a b&&(a.doom==b.doom)
def MH (M:A9) (e:CI):Bool:=BW (fun i=>BY (A8 AJ M.wc i) e) M.wc.length
def KB (M:A9) (e:Am):Bool:=BW (fun i=>Az (A8 A7 M.tlb i) e) M.tlb.length
def Aq (M:A9) (e:CI):A9:=if MH M e||decide (256<=M.wc.length) then M else ⟨M.mem,M.pend,M.tlb,M.wc++[e]⟩
def Aa (M:A9) (e:Am):A9:=if KB M e||decide (256<=M.tlb.length) then M else ⟨M.mem,M.pend,M.tlb++[e],M.wc⟩
def BA (M:A9) (page choice level frame:Int):Int:=Ec M (frame*16+Ho page level) (BT choice level.toNat)
def DW (level x:Int):Int:=if AZ level x=2 then 16 else 1
def DN (page choice:Int) (M:A9) (level x:Int) (doom:Bool):A9×IR :=
 if AZ level x=0 then (M,⟨0,0,0,0⟩)
 else if AZ level x=2\/AZ level x=3 then
  (if BT choice 6 then Aa M ⟨page-page%DW level x,DW level x,Bz level x,Bq level x,doom⟩ else M,⟨1,Bz level x+page%DW level x,Bq level x,DW level x⟩)
 else (M,⟨3,0,0,0⟩)
def GI (M:A9) (level x:Int):Bool:=decide (AZ level x=1)&&decide (Bz level x<BS M.mem.length)
def CE (page choice:Int) (M:A9) (level x:Int) (doom:Bool):A9 :=
 if BT choice (level+3).toNat then Aq M ⟨level+1,page-page%Ab level,Bz level x,doom⟩ else M
def Fg (page choice:Int):Nat->A9->Int->Int->Bool->A9×IR
 | 0,M,level,frame,doom=>DN page choice M level (BA M page choice level frame) doom
 | d+1,M,level,frame,doom =>
  if GI M level (BA M page choice level frame) then
   Fg page choice d (CE page choice M level (BA M page choice level frame) doom) (level+1) (Bz level (BA M page choice level frame)) doom
  else DN page choice M level (BA M page choice level frame) doom
def CX (M:A9) (page level:Int) (i:Nat):Bool:=decide ((A8 AJ M.wc i).level=level)&&DO (A8 AJ M.wc i) page
def Fc (M:A9) (page level:Int):Nat:=CW (CX M page level) M.wc.length 0
def Ar (M:A9) (page choice:Int):CI :=
 if BT choice 0 then
  if Fc M page 3<M.wc.length then A8 AJ M.wc (Fc M page 3)
  else if Fc M page 2<M.wc.length then A8 AJ M.wc (Fc M page 2)
  else ⟨1,0,0,false⟩
 else ⟨1,0,0,false⟩
def Ah (M:A9) (page choice:Int):A9×IR :=
 Fg page choice (3-(Ar M page choice).level).toNat M (Ar M page choice).level (Ar M page choice).table (Ar M page choice).doom
theorem G5(f:Nat->Bool):∀n i,CW f n i<i+n->f (CW f n i)=true
 | 0,i,h=>by simp[CW] at h
 | n+1,i,h=>by
  unfold CW at h ⊢;split
  ·assumption
  ·rename_i hf;rw[if_neg hf] at h;exact G5 f n (i+1) (by omega)
theorem EH(f:Nat->Bool):∀n i t,t<=n->(∀j,j<t->f (i+j)=false)->CW f n i=CW f (n-t) (i+t)
 | n,i,0,_,_=>by simp
 | 0,i,t+1,h,_=>by omega
 | n+1,i,t+1,h,hf=>by
  have h0:=hf 0 (by omega);rw[Nat.add_zero] at h0;conv=>lhs;unfold CW
  rw[h0];simp only[Bool.false_eq_true,if_false];rw[EH f n (i+1) t (by omega) (fun j hj=>by have:=hf (j+1) (by omega);rw[show i+1+j=i+(j+1) by omega];exact this)];rw[show n+1-(t+1)=n-t by omega,show i+1+t=i+(t+1) by omega]
theorem Hj(f:Nat->Bool)(n t:Nat)(ht:t<n)(hf:∀j,j<t->f j=false)(h:f t=true):CW f n 0=t:=by
 rw[EH f n 0 t (by omega) (fun j hj=>by rw[Nat.zero_add];exact hf j hj),Nat.zero_add];obtain⟨m,hm⟩:∃m,n-t=m+1:=⟨n-t-1,by omega⟩
 rw[hm];unfold CW;rw[if_pos h]
theorem DS(f:Nat->Bool)(n:Nat)(hf:∀j,j<n->f j=false):CW f n 0=n:=by
 rw[EH f n 0 n (Nat.le_refl _) (fun j hj=>by rw[Nat.zero_add];exact hf j hj)];simp[CW]
structure Cv (M:A9):Prop where
 n0:BS M.mem.length≠0
 word:∀i,0<=M.mem.getD i 0/\M.mem.getD i 0<2 ^ 64
 pw:∀i,0<=(A8 AA M.pend i).word/\(A8 AA M.pend i).word<2 ^ 64
 p:M.pend.length<=10000
 t:M.tlb.length<=256
 c:M.wc.length<=256
theorem Cv.small{M:A9}(h:Cv M):M.Small:=by
 have:=Cd M.mem.length;have:=BP M.mem.length h.n0;exact⟨by omega,by have:=h.p;omega,by have:=h.t;omega,by have:=h.c;omega⟩
theorem Er{M:A9}(h:Cv M)(a:Int):∀k,0<=C5 M a k/\C5 M a k<2 ^ 64
 | 0=>h.word _
 | k+1=>by
  unfold C5;split
  ·exact h.pw k
  ·exact Er h a k
theorem Hm{M:A9}(h:Cv M)(page choice level frame:Int):0<=BA M page choice level frame/\BA M page choice level frame<2 ^ 64:=by
 unfold BA Ec;split
 ·exact Er h _ _
 ·exact h.word _
theorem Kp{M:A9}(h:Cv M)(e:CI):Cv (Aq M e):=by
 unfold Aq;split
 ·exact h
 ·rename_i hn;have hl:¬256<=M.wc.length:=by
   intro hc;apply hn;simp[hc]
  exact⟨h.n0,h.word,h.pw,h.p,h.t,by simp;omega⟩
theorem KI{M:A9}(h:Cv M)(e:Am):Cv (Aa M e):=by
 unfold Aa;split
 ·exact h
 ·rename_i hn;have hl:¬256<=M.tlb.length:=by
   intro hc;apply hn;simp[hc]
  exact⟨h.n0,h.word,h.pw,h.p,by simp;omega,h.c⟩
theorem K5(M:A9)(e:CI):(Aq M e).mem=M.mem/\(Aq M e).pend=M.pend/\(Aq M e).tlb=M.tlb:=by
 unfold Aq;split<;>simp
theorem GL{M:A9}(h:Cv M)(page choice level x:Int)(doom:Bool):Cv (CE page choice M level x doom):=by
 unfold CE;split
 ·exact Kp h _
 ·exact h
theorem Ka(page choice:Int)(M:A9)(level x:Int)(doom:Bool):(CE page choice M level x doom).mem=M.mem/\(CE page choice M level x doom).pend=M.pend/\(CE page choice M level x doom).tlb=M.tlb:=by
 unfold CE;split
 ·exact K5 _ _
 ·simp
theorem KP{M:A9}(h:Cv M)(page choice level x:Int)(doom:Bool):Cv (DN page choice M level x doom).1:=by
 unfold DN;split
 ·exact h
 ·split
  ·show Cv (if BT choice 6=true then _ else _);split
   ·exact KI h _
   ·exact h
  ·exact h
theorem MW(page choice:Int):∀d {M:A9},Cv M->∀level frame doom,Cv (Fg page choice d M level frame doom).1
 | 0,M,h,level,frame,doom=>KP h _ _ _ _ _
 | d+1,M,h,level,frame,doom=>by
  unfold Fg;split
  ·exact MW page choice d (GL h _ _ _ _ _) _ _ _
  ·exact KP h _ _ _ _ _
theorem Cv.of{M:A9}(hk:H6 M)(hv:AG M=true):Cv M:=by
 unfold AG at hv;simp only[Bool.and_eq_true] at hv;have hl:=hv.1.1.1;unfold CY at hl;simp only[Bool.and_eq_true,Bool.not_eq_true',decide_eq_false_iff_not,decide_eq_true_eq] at hl;obtain⟨⟨⟨a,b⟩,c⟩,d⟩:=hl;refine⟨a,hk.word,fun i=>?_,b,c,d⟩;by_cases hi:i<M.pend.length
 ·have:=(hk.pend i hi).2;have:=bounds_u64 this;omega
 ·have:A8 AA M.pend i=AA.dflt:=by
   unfold A8;rw[List.getD_eq_getElem?_getD,List.getElem?_eq_none (by omega)];rfl
  rw[this];exact⟨by decide,by decide⟩
theorem Ca{M:A9}(hv:AG M=true)(i:Nat)(hi:i<M.wc.length):AX (BS M.mem.length) (A8 AJ M.wc i)=true:=by
 unfold AG at hv;simp only[Bool.and_eq_true] at hv;have:=hv.2;unfold DK at this;rw[List.all_eq_true] at this;exact this i (by simpa using hi)
theorem CV{M:A9}(hv:AG M=true)(i:Nat)(hi:i<M.tlb.length):AH (A8 A7 M.tlb i)=true:=by
 unfold AG at hv;simp only[Bool.and_eq_true] at hv;have:=hv.1.2;unfold CO at this;rw[List.all_eq_true] at this;exact this i (by simpa using hi)
theorem BI{M:A9}(hv:AG M=true)(i:Nat)(hi:i<M.pend.length):0<=(A8 AA M.pend i).addr/\(A8 AA M.pend i).addr<M.mem.length:=by
 unfold AG at hv;simp only[Bool.and_eq_true] at hv;have:=hv.1.1.2;unfold C6 at this;rw[List.all_eq_true] at this;have:=this i (by simpa using hi);simpa [D3] using this
theorem Dd{M:A9}(hv:AG M=true)(page choice:Int):1<=(Ar M page choice).level/\(Ar M page choice).level<=3/\0<=(Ar M page choice).table/\(Ar M page choice).table<BS M.mem.length:=by
 have h1:(1:Int)<=1/\(1:Int)<=3/\(0:Int)<=0/\0<BS M.mem.length:=by
  have hv':=hv;unfold AG at hv';simp only[Bool.and_eq_true] at hv';have hl:=hv'.1.1.1;unfold CY at hl;simp only[Bool.and_eq_true,Bool.not_eq_true',decide_eq_false_iff_not,decide_eq_true_eq] at hl;have:=BP _ hl.1.1.1;omega
 have key:∀i,i<M.wc.length->1<=(A8 AJ M.wc i).level/\(A8 AJ M.wc i).level<=3/\0<=(A8 AJ M.wc i).table/\(A8 AJ M.wc i).table<BS M.mem.length:=by
  intro i hi;have:=Ca hv i hi;simp only[AX,Bool.and_eq_true,Bool.or_eq_true,decide_eq_true_eq] at this;omega
 unfold Ar;split
 ·split
  ·rename_i h;exact key _ h
  ·split
   ·rename_i h;exact key _ h
   ·exact h1
 ·exact h1
def FB (a:Option Addr):Option Nat:=(Value.slice a 0 0).ownBlock
theorem C0(a:Option Addr)(n c:Nat):(Value.slice a n c).ownBlock=FB a:=by
 unfold FB;rcases a with _|⟨b,o,sp⟩<;>rfl
end Go.Proofs.YtnmhkgmmpkjjeabGreat
