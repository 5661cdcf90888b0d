import Derived.Test.YtnmhkgmmpkjjeaaGreatM10
namespace Go.Proofs.YtnmhkgmmpkjjeaaGreat
open ChangeShapes WideShapes ChangeAt RowKit Proofs.Tryz
set_option linter.all false
set_option maxRecDepth 100000
set_option maxHeartbeats 4000000
attribute [local go_sem ↓] wp_at_zero wp_at_succ
theorem ZO(g p n:Nat)(hp:p<4096)(hn:p+n<=4096)(w:World):(Instr.sliceAt 220 (.pointer (some ⟨g,0,none⟩)) (some (.int .i64 (p:Int))) (some (.int .i64 ((p:Int)+(n:Nat)))) none).run prog w=.ok (.slice (some ⟨g,p*4,none⟩) n (4096-p)) w:=by
 have hal:prog.arrayLen 220=4096:=by kernel_rfl
 have hz:∀w,(sizeOf (prog.elem 220)).run prog w=.ok 4 w:=fun w=>by kernel_rfl
 rw[run_sliceAt_array_lh w _ _ (by kernel_rfl) _ _ _ _ (by omega) (by omega) (by rw[hal];omega),hz];simp only[Result.andThen_ok,slicedAt,hal];have e1:((p:Int)+(n:Nat)).toNat-((p:Int)).toNat=n:=by omega
 have e2:((p:Int)).toNat=p:=rfl;rw[e1,e2,if_neg (by omega)];simp[Addr.add];omega
theorem V8(g:Nat)(H:Nat->Ht)(p:Nat)(w:World)(hp:p+4096<=4096)(h:CZ w g H):Calls prog 143 #[.pointer (some ⟨g,0,none⟩),.agg #[.int .i64 1,.int .i64 p]] w (AM w (.bool (nd H 1 p))):=by
 obtain⟨wb,hwb⟩:∃wb,wb=w.alloc (.cells #[.int .i64 1,.int .i64 p] 223):=⟨_,rfl⟩
 have hbb:Bl w wb:=by rw[hwb];exact AO
 have hzb:wb.heap.size=w.heap.size+1:=by rw[hwb];simp
 have q0:wb.cell? ⟨w.heap.size,0,none⟩=some (.int .i64 1):=by rw[hwb];simp[go_sem]
 have q1:wb.cell? ⟨w.heap.size,1,none⟩=some (.int .i64 p):=by rw[hwb];simp[go_sem]
 have HK:Hid (∀wX,Bl wb wX->wX.cell? ⟨w.heap.size,0,none⟩=some (.int .i64 1)/\wX.cell? ⟨w.heap.size,1,none⟩=some (.int .i64 p)):=fun wX hX=>⟨(hX.cell (by simp;omega)).trans q0,(hX.cell (by simp;omega)).trans q1⟩
 have HC:Hid (∀i,i<4096->∀wX,Bl wb wX->g<wX.heap.size/\wX.cell? ⟨g,i*4,none⟩=some (.int .i64 (H i).k)/\wX.cell? ⟨g,i*4+1,none⟩=some (.int .i64 (H i).o)/\wX.cell? ⟨g,i*4+2,none⟩=some (.int .i64 (H i).p)/\wX.cell? ⟨g,i*4+3,none⟩=some (.int .i64 (H i).s)):=fun i hi wX hX=>by
  have hx:=(h.below hbb).below hX;exact⟨hx.lt,hx.cells i hi⟩
 have htp:=Dm 1;rw[show 16*BX 1=4096 from rfl] at htp;have HWB:=A5 hwb;have HBB:=A5 hbb;have HZ:=A5 hzb;have L1:(0:Int)<=(p:Int):=by omega
 have L2:(p:Int)+4096<=4096:=by omega
 have L3:(p:Int)<=(p:Int)+4096:=by omega
 have W1:=AR ((p:Int)+4096);clear hwb hbb hzb q0 q1 h;go_enter func143,ntmps143
 go_wp2_with fail
 rw[<- HWB.out];refine wp_region_held_drew (S:=fun wX=>wX.cell? ⟨w.heap.size,0,none⟩=some (.int .i64 1)/\wX.cell? ⟨w.heap.size,1,none⟩=some (.int .i64 p)) (by kernel_rfl) (HK.out _ AH.drew) (fun hHeld=>?_);refine tk 0 ?_;refine tk 1 ?_;refine tk 2 ?_;refine tk 3 ?_;refine tk 4 ?_;refine tk 5 ?_;refine tk 6 ?_;refine tk 7 ?_;refine tk 12 ?_;refine Aj 8 fun K hK=>?_
 go_simp;go_at_call 114
 refine(htp _).mono ?_;rintro e w1 ⟨rfl,hw1⟩;subst hw1;go_wp2_with fail
 refine hK.out _ _ (HK.out _ AH.drew) (fun hHeld2=>?_);clear hK K;refine tk 9 ?_;refine tk 10 ?_;refine tk 11 ?_;refine AZ ?_;clear hHeld hHeld2;go_wp2_with fail
 go_loopw [19] (fun iv wr=>∃k:Nat,k<=4096/\iv=.int .i64 k/\Hid (∀j,j<k->hB H 1 (p+j)=false)/\Bl wb wr) (fun iv _=>4096-(intOf iv).toNat)
 case atStart=>exact⟨0,Nat.zero_le _,rfl,fun j hj=>absurd hj (by omega),AH.drew⟩
 case round =>
  obtain⟨k,hk,rfl,hall,hb⟩:=hrel;have hsz:=hb.size;by_cases hlt:k<4096
  ·obtain⟨hgl,c0,c1,c2,c3⟩:=HC.out (p+k) (by omega) wr hb;obtain⟨b0,b1⟩:=HK.out wr hb;(obtain⟨E,hE⟩:∃E,H (p+k)=E:=⟨_,rfl⟩);(have HBq:Hid (hB H 1 (p+k)=decide (E.k=1/\((1:Nat)≠3\/E.s=1))):=A9 <| by unfold hB;rw[hE]);rw[hE] at c0 c1 c2 c3;obtain⟨A,B,C,D⟩:=E;dsimp only at c0 c1 c2 c3;rw[show (p+k)*4=p*4+k*4 by omega] at c0 c1 c2 c3;have HB:=A5 hb;(have N0:w.heap.size<wr.heap.size:=by have:=HZ.out;omega);clear hb hE;by_cases hA:A=1
   ·subst hA;(have HV:Hid (hB H 1 (p+k)=true):=A9 <| by rw[HBq.out];simp);(go_wp2_with fail);go_ret;refine⟨by rw[Fi (show k<Ga 1 from hlt) HV.out];rfl,?_⟩;exact(Ab HBB.out HB.out).alloc (by have:=HBB.out.size;omega) _
   ·(have dA:(A==1)=false:=by simpa using hA);(have HV:Hid (hB H 1 (p+k)=false):=A9 <| by rw[HBq.out];simp;exact fun h=>absurd h hA);(go_wp2_with fail);go_roundw;case rel =>
     refine⟨k+1,by omega,by go_num,fun j hj=>?_,?_⟩
     ·by_cases e:j=k
      ·rw[e];exact HV.out
      ·exact hall.out j (by omega)
     ·exact HB.out.alloc (by omega) _
    case measure=>simp[intOf];omega
  ·(have e:k=4096:=by omega);subst e;have HV:Hid (nd H 1 p=true):=Fe H p;obtain⟨b0,b1⟩:=HK.out wr hb;(go_wp2_with fail);go_ret;exact⟨by rw[HV.out];rfl,Ab HBB.out hb⟩
theorem Tw(g:Nat)(H:Nat->Ht)(p:Nat)(w:World)(hp:p+256<=4096)(h:CZ w g H):Calls prog 143 #[.pointer (some ⟨g,0,none⟩),.agg #[.int .i64 2,.int .i64 p]] w (AM w (.bool (nd H 2 p))):=by
 obtain⟨wb,hwb⟩:∃wb,wb=w.alloc (.cells #[.int .i64 2,.int .i64 p] 223):=⟨_,rfl⟩
 have hbb:Bl w wb:=by rw[hwb];exact AO
 have hzb:wb.heap.size=w.heap.size+1:=by rw[hwb];simp
 have q0:wb.cell? ⟨w.heap.size,0,none⟩=some (.int .i64 2):=by rw[hwb];simp[go_sem]
 have q1:wb.cell? ⟨w.heap.size,1,none⟩=some (.int .i64 p):=by rw[hwb];simp[go_sem]
 have HK:Hid (∀wX,Bl wb wX->wX.cell? ⟨w.heap.size,0,none⟩=some (.int .i64 2)/\wX.cell? ⟨w.heap.size,1,none⟩=some (.int .i64 p)):=fun wX hX=>⟨(hX.cell (by simp;omega)).trans q0,(hX.cell (by simp;omega)).trans q1⟩
 have HC:Hid (∀i,i<4096->∀wX,Bl wb wX->g<wX.heap.size/\wX.cell? ⟨g,i*4,none⟩=some (.int .i64 (H i).k)/\wX.cell? ⟨g,i*4+1,none⟩=some (.int .i64 (H i).o)/\wX.cell? ⟨g,i*4+2,none⟩=some (.int .i64 (H i).p)/\wX.cell? ⟨g,i*4+3,none⟩=some (.int .i64 (H i).s)):=fun i hi wX hX=>by
  have hx:=(h.below hbb).below hX;exact⟨hx.lt,hx.cells i hi⟩
 have htp:=Dm 2;rw[show 16*BX 2=256 from rfl] at htp;have HWB:=A5 hwb;have HBB:=A5 hbb;have HZ:=A5 hzb;have L1:(0:Int)<=(p:Int):=by omega
 have L2:(p:Int)+256<=4096:=by omega
 have L3:(p:Int)<=(p:Int)+256:=by omega
 have W1:=AR ((p:Int)+256);clear hwb hbb hzb q0 q1 h;go_enter func143,ntmps143
 go_wp2_with fail
 rw[<- HWB.out];refine wp_region_held_drew (S:=fun wX=>wX.cell? ⟨w.heap.size,0,none⟩=some (.int .i64 2)/\wX.cell? ⟨w.heap.size,1,none⟩=some (.int .i64 p)) (by kernel_rfl) (HK.out _ AH.drew) (fun hHeld=>?_);refine tk 0 ?_;refine tk 1 ?_;refine tk 2 ?_;refine tk 3 ?_;refine tk 4 ?_;refine tk 5 ?_;refine tk 6 ?_;refine tk 7 ?_;refine tk 12 ?_;refine Aj 8 fun K hK=>?_
 go_simp;go_at_call 114
 refine(htp _).mono ?_;rintro e w1 ⟨rfl,hw1⟩;subst hw1;go_wp2_with fail
 refine hK.out _ _ (HK.out _ AH.drew) (fun hHeld2=>?_);clear hK K;refine tk 9 ?_;refine tk 10 ?_;refine tk 11 ?_;refine AZ ?_;clear hHeld hHeld2;go_wp2_with fail
 go_loopw [19] (fun iv wr=>∃k:Nat,k<=256/\iv=.int .i64 k/\Hid (∀j,j<k->hB H 2 (p+j)=false)/\Bl wb wr) (fun iv _=>256-(intOf iv).toNat)
 case atStart=>exact⟨0,Nat.zero_le _,rfl,fun j hj=>absurd hj (by omega),AH.drew⟩
 case round =>
  obtain⟨k,hk,rfl,hall,hb⟩:=hrel;have hsz:=hb.size;by_cases hlt:k<256
  ·obtain⟨hgl,c0,c1,c2,c3⟩:=HC.out (p+k) (by omega) wr hb;obtain⟨b0,b1⟩:=HK.out wr hb;(obtain⟨E,hE⟩:∃E,H (p+k)=E:=⟨_,rfl⟩);(have HBq:Hid (hB H 2 (p+k)=decide (E.k=1/\((2:Nat)≠3\/E.s=1))):=A9 <| by unfold hB;rw[hE]);rw[hE] at c0 c1 c2 c3;obtain⟨A,B,C,D⟩:=E;dsimp only at c0 c1 c2 c3;rw[show (p+k)*4=p*4+k*4 by omega] at c0 c1 c2 c3;have HB:=A5 hb;(have N0:w.heap.size<wr.heap.size:=by have:=HZ.out;omega);clear hb hE;by_cases hA:A=1
   ·subst hA;(have HV:Hid (hB H 2 (p+k)=true):=A9 <| by rw[HBq.out];simp);(go_wp2_with fail);go_ret;refine⟨by rw[Fi (show k<Ga 2 from hlt) HV.out];rfl,?_⟩;exact(Ab HBB.out HB.out).alloc (by have:=HBB.out.size;omega) _
   ·(have dA:(A==1)=false:=by simpa using hA);(have HV:Hid (hB H 2 (p+k)=false):=A9 <| by rw[HBq.out];simp;exact fun h=>absurd h hA);(go_wp2_with fail);go_roundw;case rel =>
     refine⟨k+1,by omega,by go_num,fun j hj=>?_,?_⟩
     ·by_cases e:j=k
      ·rw[e];exact HV.out
      ·exact hall.out j (by omega)
     ·exact HB.out.alloc (by omega) _
    case measure=>simp[intOf];omega
  ·(have e:k=256:=by omega);subst e;have HV:Hid (nd H 2 p=false):=JE (by decide) hall.out;obtain⟨b0,b1⟩:=HK.out wr hb;(go_wp2_with fail);go_ret;exact⟨by rw[HV.out];rfl,Ab HBB.out hb⟩
theorem V2(g:Nat)(H:Nat->Ht)(p:Nat)(w:World)(hp:p+16<=4096)(h:CZ w g H):Calls prog 143 #[.pointer (some ⟨g,0,none⟩),.agg #[.int .i64 3,.int .i64 p]] w (AM w (.bool (nd H 3 p))):=by
 obtain⟨wb,hwb⟩:∃wb,wb=w.alloc (.cells #[.int .i64 3,.int .i64 p] 223):=⟨_,rfl⟩
 have hbb:Bl w wb:=by rw[hwb];exact AO
 have hzb:wb.heap.size=w.heap.size+1:=by rw[hwb];simp
 have q0:wb.cell? ⟨w.heap.size,0,none⟩=some (.int .i64 3):=by rw[hwb];simp[go_sem]
 have q1:wb.cell? ⟨w.heap.size,1,none⟩=some (.int .i64 p):=by rw[hwb];simp[go_sem]
 have HK:Hid (∀wX,Bl wb wX->wX.cell? ⟨w.heap.size,0,none⟩=some (.int .i64 3)/\wX.cell? ⟨w.heap.size,1,none⟩=some (.int .i64 p)):=fun wX hX=>⟨(hX.cell (by simp;omega)).trans q0,(hX.cell (by simp;omega)).trans q1⟩
 have HC:Hid (∀i,i<4096->∀wX,Bl wb wX->g<wX.heap.size/\wX.cell? ⟨g,i*4,none⟩=some (.int .i64 (H i).k)/\wX.cell? ⟨g,i*4+1,none⟩=some (.int .i64 (H i).o)/\wX.cell? ⟨g,i*4+2,none⟩=some (.int .i64 (H i).p)/\wX.cell? ⟨g,i*4+3,none⟩=some (.int .i64 (H i).s)):=fun i hi wX hX=>by
  have hx:=(h.below hbb).below hX;exact⟨hx.lt,hx.cells i hi⟩
 have htp:=Dm 3;rw[show 16*BX 3=16 from rfl] at htp;have HWB:=A5 hwb;have HBB:=A5 hbb;have HZ:=A5 hzb;have L1:(0:Int)<=(p:Int):=by omega
 have L2:(p:Int)+16<=4096:=by omega
 have L3:(p:Int)<=(p:Int)+16:=by omega
 have W1:=AR ((p:Int)+16);clear hwb hbb hzb q0 q1 h;go_enter func143,ntmps143
 go_wp2_with fail
 rw[<- HWB.out];refine wp_region_held_drew (S:=fun wX=>wX.cell? ⟨w.heap.size,0,none⟩=some (.int .i64 3)/\wX.cell? ⟨w.heap.size,1,none⟩=some (.int .i64 p)) (by kernel_rfl) (HK.out _ AH.drew) (fun hHeld=>?_);refine tk 0 ?_;refine tk 1 ?_;refine tk 2 ?_;refine tk 3 ?_;refine tk 4 ?_;refine tk 5 ?_;refine tk 6 ?_;refine tk 7 ?_;refine tk 12 ?_;refine Aj 8 fun K hK=>?_
 go_simp;go_at_call 114
 refine(htp _).mono ?_;rintro e w1 ⟨rfl,hw1⟩;subst hw1;go_wp2_with fail
 refine hK.out _ _ (HK.out _ AH.drew) (fun hHeld2=>?_);clear hK K;refine tk 9 ?_;refine tk 10 ?_;refine tk 11 ?_;refine AZ ?_;clear hHeld hHeld2;go_wp2_with fail
 go_loopw [19] (fun iv wr=>∃k:Nat,k<=16/\iv=.int .i64 k/\Hid (∀j,j<k->hB H 3 (p+j)=false)/\Bl wb wr) (fun iv _=>16-(intOf iv).toNat)
 case atStart=>exact⟨0,Nat.zero_le _,rfl,fun j hj=>absurd hj (by omega),AH.drew⟩
 case round =>
  obtain⟨k,hk,rfl,hall,hb⟩:=hrel;have hsz:=hb.size;by_cases hlt:k<16
  ·obtain⟨hgl,c0,c1,c2,c3⟩:=HC.out (p+k) (by omega) wr hb;obtain⟨b0,b1⟩:=HK.out wr hb;(obtain⟨E,hE⟩:∃E,H (p+k)=E:=⟨_,rfl⟩);(have HBq:Hid (hB H 3 (p+k)=decide (E.k=1/\((3:Nat)≠3\/E.s=1))):=A9 <| by unfold hB;rw[hE]);rw[hE] at c0 c1 c2 c3;obtain⟨A,B,C,D⟩:=E;dsimp only at c0 c1 c2 c3;rw[show (p+k)*4=p*4+k*4 by omega] at c0 c1 c2 c3;have HB:=A5 hb;(have N0:w.heap.size<wr.heap.size:=by have:=HZ.out;omega);clear hb hE;by_cases hA:A=1
   ·subst hA;by_cases hD:D=1
    ·subst hD;(have HV:Hid (hB H 3 (p+k)=true):=A9 <| by rw[HBq.out];simp);(go_wp2_with fail);go_ret;refine⟨by rw[Fi (show k<Ga 3 from hlt) HV.out];rfl,?_⟩;exact(Ab HBB.out HB.out).alloc (by have:=HBB.out.size;omega) _
    ·(have dD:(D==1)=false:=by simpa using hD);(have HV:Hid (hB H 3 (p+k)=false):=A9 <| by rw[HBq.out];simp;exact hD);(go_wp2_with fail);go_roundw;case rel =>
      refine⟨k+1,by omega,by go_num,fun j hj=>?_,?_⟩
      ·by_cases e:j=k
       ·rw[e];exact HV.out
       ·exact hall.out j (by omega)
      ·exact HB.out.alloc (by omega) _
     case measure=>simp[intOf];omega
   ·(have dA:(A==1)=false:=by simpa using hA);(have HV:Hid (hB H 3 (p+k)=false):=A9 <| by rw[HBq.out];simp;exact fun h=>absurd h hA);(go_wp2_with fail);go_roundw;case rel =>
     refine⟨k+1,by omega,by go_num,fun j hj=>?_,?_⟩
     ·by_cases e:j=k
      ·rw[e];exact HV.out
      ·exact hall.out j (by omega)
     ·exact HB.out.alloc (by omega) _
    case measure=>simp[intOf];omega
  ·(have e:k=16:=by omega);subst e;have HV:Hid (nd H 3 p=false):=JE (by decide) hall.out;obtain⟨b0,b1⟩:=HK.out wr hb;(go_wp2_with fail);go_ret;exact⟨by rw[HV.out];rfl,Ab HBB.out hb⟩
def J9 (w:World) (B:Nat) (v:Value) (L:List (Nat×Nat)) (e:Ending) (w':World):Prop :=
 ∃v',e=.returned v'/\A8 DM w' B v' L/\w.grownBy w' v.ownBlock/\(v'.ownBlock=v.ownBlock\/∃g',v'.ownBlock=some g'/\w.heap.size<=g')
theorem G3(g:Nat)(H:Nat->Ht)(lv p:Nat)(w:World)(h1:1<=lv)(h3:lv<=3)(hp:p+Ga lv<=4096)(h:CZ w g H):Calls prog 143 #[.pointer (some ⟨g,0,none⟩),.agg #[.int .i64 lv,.int .i64 p]] w (AM w (.bool (nd H lv p))):=by
 rcases(show lv=1\/lv=2\/lv=3 by omega) with rfl|rfl|rfl
 ·exact V8 g H p w hp h
 ·exact Tw g H p w hp h
 ·exact V2 g H p w hp h
theorem KB(g:Nat)(H:Nat->Ht)(lv p:Nat)(h1:1<=lv)(h3:lv<=3)(hp:p+Ga lv<=4096)(B:Nat)(hgB:g<B)(hnd:nd H lv p=false)(v:Value)(qs:List (Nat×Nat))(w:World)(hg:CZ w g H)(hBw:B<=w.heap.size)(hv:A8 DM w B v qs):Calls prog 141 #[.pointer (some ⟨g,0,none⟩),v,.agg #[.int .i64 lv,.int .i64 p]] w fun e w'=>J9 w B v qs e w':=by
 obtain⟨wb,hwb⟩:∃wb,wb=w.alloc (.cells #[.int .i64 lv,.int .i64 p] 223):=⟨_,rfl⟩
 have hbb:Bl w wb:=by rw[hwb];exact AO
 have hn:=G3 g H lv p wb h1 h3 hp (hg.below hbb);rw[hnd,hwb] at hn;have HBB:=A5 hbb;have HWB:=A5 hwb;have HV:=A5 hv;clear hnd hwb hbb hg hv;go_enter func141,ntmps141
 go_wp2_with (go_at_call 143;refine hn.mono ?_;rintro e w1 ⟨rfl,hb1⟩)
 go_ret;rw[<- HWB.out] at hb1;have b1:Bl w w1:=Ab HBB.out hb1;exact⟨v,rfl,HV.out.below b1,⟨b1.os,b1.tape,b1.output,b1.size,fun k hk _=>b1.block k hk⟩,.inl rfl⟩
structure Ok (w:World) (B g:Nat) (H:Nat->Ht) (lv p:Nat) (v:Value) (wr:World) (v':Value) (L:List (Nat×Nat)):Prop where
 row:∃g' c',v'=.slice (some ⟨g',0,none⟩) L.length c'/\A8 DM wr B (.slice (some ⟨g',0,none⟩) L.length c') L/\(v.ownBlock=some g'\/w.heap.size+1<=g')
 gr:w.grownBy wr v.ownBlock
 sz:w.heap.size+1<=wr.heap.size
 b0:wr.cell? ⟨w.heap.size,0,none⟩=some (.int .i64 lv)
 b1:wr.cell? ⟨w.heap.size,1,none⟩=some (.int .i64 p)
theorem Ok.lay{w:World}{B g:Nat}{H:Nat->Ht}{lv p:Nat}{v:Value}{wr:World}{v':Value}{L:List (Nat×Nat)}(h:Ok w B g H lv p v wr v' L)(hg:CZ w g H)(hgv:some g≠v.ownBlock):CZ wr g H:=hg.of_block h.gr.size (h.gr.block g hg.lt hgv)
theorem Ok.grew{w:World}{B g:Nat}{H:Nat->Ht}{lv p:Nat}{v:Value}{wr:World}{v':Value}{L:List (Nat×Nat)}(h:Ok w B g H lv p v wr v' L):J9 w B v L (.returned v') wr:=by
 obtain⟨⟨g',c',rfl,hr,hat⟩,hgr,_⟩:=h;refine⟨_,rfl,hr,hgr,?_⟩;rcases hat with e|e
 ·exact .inl e.symm
 ·exact .inr ⟨g',rfl,by omega⟩
theorem Ok.below{w:World}{B g:Nat}{H:Nat->Ht}{lv p:Nat}{v:Value}{wr w2:World}{v':Value}{L:List (Nat×Nat)}(h:Ok w B g H lv p v wr v' L)(hb:Bl wr w2):Ok w B g H lv p v w2 v' L:=by
 obtain⟨⟨g',c',rfl,hr,hat⟩,hgr,hsz,b0,b1⟩:=h;exact⟨⟨g',c',rfl,hr.below hb,hat⟩,Eo hgr hb,Nat.le_trans hsz hb.size,(hb.cell (by simp;omega)).trans b0,(hb.cell (by simp;omega)).trans b1⟩
theorem Ok.next{w:World}{B g:Nat}{H:Nat->Ht}{lv p:Nat}{v:Value}{wr:World}{g' c':Nat}{L L':List (Nat×Nat)}{e:Ending}{w2:World}(h:Ok w B g H lv p v wr (.slice (some ⟨g',0,none⟩) L.length c') L)(hv:∀k,v.ownBlock=some k->k<w.heap.size)(hL:0<L'.length)(hg:J9 wr B (.slice (some ⟨g',0,none⟩) L.length c') L' e w2):∃g2 c2,e=.returned (.slice (some ⟨g2,0,none⟩) L'.length c2)/\Ok w B g H lv p v w2 (.slice (some ⟨g2,0,none⟩) L'.length c2) L':=by
 obtain⟨⟨g'',c'',e1,hr,hat⟩,hgr,hsz,b0,b1⟩:=h;simp only[Value.slice.injEq,Option.some.injEq,Addr.mk.injEq,and_true,true_and] at e1;obtain⟨rfl,rfl⟩:=e1;obtain⟨v2,rfl,hr2,hgr2,hat2⟩:=hg;obtain⟨a3,c2,rfl,hf⟩:=hr2.form;obtain⟨g2,N,f,rfl,_⟩:=hf hL;have hne:∀k,k<w.heap.size+1->some k≠v.ownBlock->some k≠some g':=by
  intro k hk hkv e;simp only[Option.some.injEq] at e;subst e;rcases hat with e|e
  ·exact hkv e.symm
  ·omega
 have hsz2:=hgr2.size;have hvw:some w.heap.size≠v.ownBlock:=fun e=>by have:=hv _ e.symm;omega
 refine⟨g2,c2,rfl,⟨⟨g2,c2,rfl,hr2,?_⟩,⟨hgr2.os.trans hgr.os,hgr2.tape.trans hgr.tape,hgr2.output.trans hgr.output,Nat.le_trans hgr.size hsz2,fun k hk hkv=>?_⟩,Nat.le_trans hsz hsz2,?_,?_⟩⟩
 ·rcases hat2 with e|⟨q,e,hq⟩
  ·have e':some g2=some g':=e;simp only[Option.some.injEq] at e';subst e';exact hat
  ·have e':some g2=some q:=e;simp only[Option.some.injEq] at e';subst e';exact .inr (by omega)
 ·exact(hgr2.block k (by omega) (hne k (by omega) hkv)).trans (hgr.block k hk hkv)
 ·exact(F2 (hgr2.block w.heap.size (by omega) (hne _ (by omega) hvw))).trans b0
 ·exact(F2 (hgr2.block w.heap.size (by omega) (hne _ (by omega) hvw))).trans b1
theorem Ok.first{w:World}{B g:Nat}{H:Nat->Ht}{lv p:Nat}{v:Value}{qs:List (Nat×Nat)}{w1 wn:World}{g1 c1:Nat}{o:Obj}(hv:A8 DM w B v qs)(hb1:Bl w w1)(hs1:w.heap.size+1<=w1.heap.size)(b0:w1.cell? ⟨w.heap.size,0,none⟩=some (.int .i64 lv))(b1:w1.cell? ⟨w.heap.size,1,none⟩=some (.int .i64 p))(hown:wn.ownsRow B 223 2 (.slice (some ⟨g1,0,none⟩) (qs.length+1) c1) (qs.length+1) (AK DM qs++[.int .i64 lv,.int .i64 p]))(hgrow:(w1.alloc o).grownBy wn (Value.ownBlock v))(hat:Value.ownBlock v=some g1\/g1=w1.heap.size+1):Ok w B g H lv p v wn (.slice (some ⟨g1,0,none⟩) (qs.length+1) c1) (qs++[(lv,p)]):=by
 have hsn:=hgrow.size;simp at hsn;have hvl:∀k,Value.ownBlock v=some k->k<w.heap.size:=fun k hk=>(hv.own k hk).2
 have hvw:some w.heap.size≠Value.ownBlock v:=fun e=>by have:=hvl _ e.symm;omega
 have hbk:wn.heap[w.heap.size]?=w1.heap[w.heap.size]?:=(hgrow.block w.heap.size (by simp;omega) hvw).trans (Below.heap_alloc _ _ _ (by omega));refine⟨⟨g1,c1,by simp,?_,?_⟩,⟨?_,?_,?_,by omega,fun k hk hkv=>?_⟩,by omega,(F2 hbk).trans b0,(F2 hbk).trans b1⟩
 ·have:=A8.push (E:=DM) (x:=(lv,p)) rfl hown;simpa using this
 ·rcases hat with e|e
  ·exact .inl e
  ·exact .inr (by omega)
 ·exact hgrow.os.trans hb1.os
 ·exact hgrow.tape.trans hb1.tape
 ·exact hgrow.output.trans hb1.output
 ·exact(hgrow.block k (by simp;omega) hkv).trans ((Below.heap_alloc _ _ _ (by omega)).trans (hb1.block k hk))
theorem MA(g:Nat)(H:Nat->Ht)(p:Nat)(hp:p+Ga 3<=4096)(B:Nat)(hgB:g<B)(hnd:nd H 3 p=true)(v:Value)(qs:List (Nat×Nat))(hqs:qs.length<=100000)(w:World)(hg:CZ w g H)(hBw:B<=w.heap.size)(hv:A8 DM w B v qs):Calls prog 141 #[.pointer (some ⟨g,0,none⟩),v,.agg #[.int .i64 3,.int .i64 p]] w fun e w'=>J9 w B v (qs++[(3,p)]) e w':=by
 obtain⟨i0,hi,hz0,hz1,hz2⟩:=info_parts Pv;obtain⟨wb,hwb⟩:∃wb,wb=w.alloc (.cells #[.int .i64 3,.int .i64 p] 223):=⟨_,rfl⟩
 have hbb:Bl w wb:=by rw[hwb];exact AO
 have hzb:wb.heap.size=w.heap.size+1:=by rw[hwb];simp
 have q0:wb.cell? ⟨w.heap.size,0,none⟩=some (.int .i64 3):=by rw[hwb];simp[go_sem]
 have q1:wb.cell? ⟨w.heap.size,1,none⟩=some (.int .i64 p):=by rw[hwb];simp[go_sem]
 have hn:=G3 g H 3 p wb (by omega) (by omega) hp (hg.below hbb);rw[hnd,hwb] at hn;have HQ:Hid (wb.cell? ⟨w.heap.size,0,none⟩=some (.int .i64 3)/\wb.cell? ⟨w.heap.size,1,none⟩=some (.int .i64 p)):=⟨q0,q1⟩;have HBB:=A5 hbb;have HZ:=A5 hzb;have HWB:=A5 hwb;have HV:=A5 hv;clear hnd hwb hbb hzb hg hv q0 q1;go_enter func141,ntmps141
 go_wp2_with fail
 refine hn.mono ?_;rintro e w1 ⟨rfl,hb1⟩;rw[<- HWB.out] at hb1;have hs1:w.heap.size+1<=w1.heap.size:=by have:=hb1.size;have:=HZ.out;omega
 have b0:w1.cell? ⟨w.heap.size,0,none⟩=some (.int .i64 3):=(hb1.cell (by have:=HZ.out;simp;omega)).trans HQ.out.1;have b1:w1.cell? ⟨w.heap.size,1,none⟩=some (.int .i64 p):=(hb1.cell (by have:=HZ.out;simp;omega)).trans HQ.out.2;have HB1:Hid (Bl w w1):=Ab HBB.out hb1;have HBC:Hid (w1.cell? ⟨w.heap.size,0,none⟩=some (.int .i64 3)/\w1.cell? ⟨w.heap.size,1,none⟩=some (.int .i64 p)):=⟨b0,b1⟩;have HOWN:Hid (w1.ownsRow B 223 2 v qs.length (AK DM qs)):=HV.out.below HB1.out;clear hn hb1;go_wp2_with (at_builtin;refine wpList_append_lies _ rfl (.tmp 13) (.tmp 15) 155 rfl B 223 i0 _ 2 16 underlying155 hi hz0 hz1 hz2 rfl (by omega) _ _ _ rfl (World.ownsRow.alloc HOWN.out _) ⟨w1.heap.size,0,none⟩ 1 1 [.int .i64 3,.int .i64 p] rfl rfl ?c1 ?c2 (by omega) ?c3 ?c4 ?c5 (w1.heap.size+1) ?c6 ?_)
 case c1=>exact World.news_of_block (heap_alloc_new w1 (.cells #[.int .i64 3,.int .i64 p] 223))
 case c2=>intro u hu;simp at hu;rcases hu with rfl|rfl<;>rfl
 case c3=>unfold maxLen;omega
 case c4=>omega
 case c5=>simp;omega
 case c6=>simp
 intro g1 cap1 wn hown hgrow hat hlt3;have hst:Ok w B g H 3 p v wn (.slice (some ⟨g1,0,none⟩) (qs.length+1) cap1) (qs++[(3,p)]):=Ok.first HV.out HB1.out hs1 HBC.out.1 HBC.out.2 hown hgrow hat
 have c0:=hst.b0;have HST:=A5 hst;clear hown hgrow hat hlt3 hst b0 b1;go_wp2_with fail
 go_ret;have:=HST.out.grew;exact this
theorem I4(g:Nat)(H:Nat->Ht)(lv p:Nat)(hl1:1<=lv)(hl2:lv<3)(hp:p+Ga lv<=4096)(rec:Nat->List (Nat×Nat))(hR:∀q,(rec q).length<=300)(B:Nat)(hgB:g<B)(hnd:nd H lv p=true)(Q:Nat)(hQ:Q<=100000)(ih:∀i:Nat,i<16->∀(v:Value) (qs:List (Nat×Nat)) (w:World),CZ w g H->B<=w.heap.size->qs.length<=Q+5000->A8 DM w B v qs->Calls prog 141 #[.pointer (some ⟨g,0,none⟩),v,.agg #[.int .i64 ((lv:Int)+1),.int .i64 ((p:Int)+(i:Int)*BX lv)]] w fun e w'=>J9 w B v (qs++rec (p+i*Ay lv)) e w')(v:Value)(qs:List (Nat×Nat))(hqs:qs.length<=Q)(w:World)(hg:CZ w g H)(hBw:B<=w.heap.size)(hv:A8 DM w B v qs):Calls prog 141 #[.pointer (some ⟨g,0,none⟩),v,.agg #[.int .i64 lv,.int .i64 p]] w fun e w'=>J9 w B v (qs++((lv,p) :: (List.range 16).flatMap (fun i=>rec (p+i*Ay lv)))) e w':=by
 have HIH:=A5 ih;have HVL:Hid (∀k,Value.ownBlock v=some k->k<w.heap.size):=A9 <| fun k hk=>(hv.own k hk).2
 clear ih;have hbl:=fun (i:Nat) (hi:i<16)=>I7 lv p i (by omega) (by omega) (by omega) (by omega) (by omega) (by omega)
 have HBL:=A5 hbl;clear hbl;obtain⟨i0,hi,hz0,hz1,hz2⟩:=info_parts Pv;obtain⟨wb,hwb⟩:∃wb,wb=w.alloc (.cells #[.int .i64 lv,.int .i64 p] 223):=⟨_,rfl⟩
 have hbb:Bl w wb:=by rw[hwb];exact AO
 have hzb:wb.heap.size=w.heap.size+1:=by rw[hwb];simp
 have q0:wb.cell? ⟨w.heap.size,0,none⟩=some (.int .i64 lv):=by rw[hwb];simp[go_sem]
 have q1:wb.cell? ⟨w.heap.size,1,none⟩=some (.int .i64 p):=by rw[hwb];simp[go_sem]
 have hn:=G3 g H lv p wb (by omega) (by omega) hp (hg.below hbb);rw[hnd,hwb] at hn;have HQ:Hid (wb.cell? ⟨w.heap.size,0,none⟩=some (.int .i64 lv)/\wb.cell? ⟨w.heap.size,1,none⟩=some (.int .i64 p)):=⟨q0,q1⟩;have HBB:=A5 hbb;have HZ:=A5 hzb;have HWB:=A5 hwb;have HV:=A5 hv;have HG:=A5 hg;have HGV:Hid (some g≠Value.ownBlock v):=A9 <| fun e=>by have:=(hv.own g e.symm).1;omega
 clear hnd hwb hbb hzb hg hv q0 q1;go_enter func141,ntmps141
 go_wp2_with fail
 refine hn.mono ?_;rintro e w1 ⟨rfl,hb1⟩;rw[<- HWB.out] at hb1;have hs1:w.heap.size+1<=w1.heap.size:=by have:=hb1.size;have:=HZ.out;omega
 have b0:w1.cell? ⟨w.heap.size,0,none⟩=some (.int .i64 lv):=(hb1.cell (by have:=HZ.out;simp;omega)).trans HQ.out.1;have b1:w1.cell? ⟨w.heap.size,1,none⟩=some (.int .i64 p):=(hb1.cell (by have:=HZ.out;simp;omega)).trans HQ.out.2;have HB1:Hid (Bl w w1):=Ab HBB.out hb1;have HBC:Hid (w1.cell? ⟨w.heap.size,0,none⟩=some (.int .i64 lv)/\w1.cell? ⟨w.heap.size,1,none⟩=some (.int .i64 p)):=⟨b0,b1⟩;have HOWN:Hid (w1.ownsRow B 223 2 v qs.length (AK DM qs)):=HV.out.below HB1.out;clear hn hb1;go_wp2_with (at_builtin;refine wpList_append_lies _ rfl (.tmp 13) (.tmp 15) 155 rfl B 223 i0 _ 2 16 underlying155 hi hz0 hz1 hz2 rfl (by omega) _ _ _ rfl (World.ownsRow.alloc HOWN.out _) ⟨w1.heap.size,0,none⟩ 1 1 [.int .i64 lv,.int .i64 p] rfl rfl ?c1 ?c2 (by omega) ?c3 ?c4 ?c5 (w1.heap.size+1) ?c6 ?_)
 case c1=>exact World.news_of_block (heap_alloc_new w1 (.cells #[.int .i64 lv,.int .i64 p] 223))
 case c2=>intro u hu;simp at hu;rcases hu with rfl|rfl<;>rfl
 case c3=>unfold maxLen;omega
 case c4=>omega
 case c5=>simp;omega
 case c6=>simp
 intro g1 cap1 wn hown hgrow hat hlt3;have hst:Ok w B g H lv p v wn (.slice (some ⟨g1,0,none⟩) (qs.length+1) cap1) (qs++[(lv,p)]):=Ok.first HV.out HB1.out hs1 HBC.out.1 HBC.out.2 hown hgrow hat
 have c0:=hst.b0;have HST:=A5 hst;clear hown hgrow hat hlt3 hst b0 b1;have hne3:((lv:Int)==3)=false:=by simp;omega
 go_wp2_with fail
 go_loopw [1,21] (fun v0 iv wr=>∃k:Nat,k<=16/\iv=.int .i64 k/\Ok w B g H lv p v wr v0 (qs++((lv,p) :: (List.range k).flatMap (fun i=>rec (p+i*Ay lv))))) (fun _ iv _=>16-(intOf iv).toNat)
 case atStart=>exact⟨0,Nat.zero_le _,rfl,HST.out⟩
 case round =>
  obtain⟨k,hk,rfl,hst⟩:=hrel;obtain⟨L,hL⟩:∃L,qs++((lv,p) :: (List.range k).flatMap (fun i=>rec (p+i*Ay lv)))=L:=⟨_,rfl⟩
  have hLl:L.length<=qs.length+1+k*300:=by
   rw[<- hL,List.length_append,List.length_cons];have hl:∀k,((List.range k).flatMap (fun i=>rec (p+i*Ay lv))).length<=k*300:=by
    intro k;induction k with
    | zero=>simp
    | succ k ih=>rw[List.range_succ,List.flatMap_append,List.length_append];have:=hR (p+k*Ay lv);simp at ih ⊢;omega
   have:=hl k;omega
  have hLp:0<L.length:=by rw[<- hL,List.length_append,List.length_cons];omega
  have HSU:Hid (qs++((lv,p) :: (List.range (k+1)).flatMap (fun i=>rec (p+i*Ay lv)))=L++rec (p+k*Ay lv)):=A9 <| by
   rw[<- hL,List.range_succ,List.flatMap_append];simp
  rw[hL] at hst;have HL:=A5 hL;clear hL;by_cases hlt:k<16
  ·obtain⟨⟨gv,cv,rfl,hrow,hat⟩,hgr,hsz,c0,c1⟩:=hst;have hst:Ok w B g H lv p v wr (.slice (some ⟨gv,0,none⟩) L.length cv) L:=⟨⟨gv,cv,rfl,hrow,hat⟩,hgr,hsz,c0,c1⟩;have HS:=A5 hst;have hb:=HBL.out k hlt;(have L2:(k:Int)<16:=by omega);clear hst hrow hat hgr;(go_wp2_with fail);refine(hb _).mono ?_;rintro e w2 ⟨rfl,hb2⟩;have hs2:=HS.out.below hb2;have hc:=HIH.out k hlt (.slice (some ⟨gv,0,none⟩) L.length cv) L w2 (hs2.lay HG.out HGV.out) (by have:=hs2.gr.size;omega) (by omega) (by obtain⟨⟨g',c',e1,hr,_⟩,_⟩:=hs2;simp only[Value.slice.injEq,Option.some.injEq,Addr.mk.injEq,and_true,true_and] at e1;obtain⟨rfl,rfl⟩:=e1;exact hr);have HS2:=A5 hs2;clear hb hb2 hs2 c0 c1;(go_wp2_with fail);refine hc.mono ?_;intro e w3 hgw;obtain⟨g3,c3,rfl,hs3⟩:=HS2.out.next HVL.out (by rw[List.length_append];omega) hgw;clear hgw hc;rw[List.length_append] at hs3 ⊢;(go_wp2_with fail);go_roundw;(case rel=>exact⟨k+1,by omega,by go_num,by rw[HSU.out];exact hs3⟩);case measure=>simp[intOf];omega
  ·(have e:k=16:=by omega);subst e;have hgw:=hst.grew;obtain⟨⟨gv,cv,rfl,hrow,hat⟩,hgr,hsz,c0,c1⟩:=hst;clear hrow hat;(go_wp2_with fail);go_ret;rw[HL.out];exact hgw
theorem S9(lv i p:Nat)(h1:1<=lv)(h3:lv<=3):(p:Int)+(i:Int)*BX lv=((p+i*Ay lv:Nat):Int):=by
 rcases(show lv=1\/lv=2\/lv=3 by omega) with rfl|rfl|rfl
 ·show (p:Int)+(i:Int)*256=((p+i*256:Nat):Int);omega
 ·show (p:Int)+(i:Int)*16=((p+i*16:Nat):Int);omega
 ·show (p:Int)+(i:Int)*1=((p+i*1:Nat):Int);omega
theorem QW(g:Nat)(H:Nat->Ht)(B:Nat)(hgB:g<B)(p:Nat)(hp:p+16<=4096)(v:Value)(qs:List (Nat×Nat))(hqs:qs.length<=100000)(w:World)(hg:CZ w g H)(hBw:B<=w.heap.size)(hv:A8 DM w B v qs):Calls prog 141 #[.pointer (some ⟨g,0,none⟩),v,.agg #[.int .i64 3,.int .i64 p]] w fun e w'=>J9 w B v (qs++st H 0 p) e w':=by
 cases hnd:nd H 3 p
 ·have e:st H 0 p=[]:=by unfold st;rw[hnd];rfl
  rw[e,List.append_nil];exact KB g H 3 p (by decide) (by decide) hp B hgB hnd v qs w hg hBw hv
 ·have e:st H 0 p=[(3,p)]:=by unfold st;rw[hnd];rfl
  rw[e];exact MA g H p hp B hgB hnd v qs hqs w hg hBw hv
theorem QH(g:Nat)(H:Nat->Ht)(B:Nat)(hgB:g<B)(p:Nat)(hp:p+256<=4096)(v:Value)(qs:List (Nat×Nat))(hqs:qs.length<=90000)(w:World)(hg:CZ w g H)(hBw:B<=w.heap.size)(hv:A8 DM w B v qs):Calls prog 141 #[.pointer (some ⟨g,0,none⟩),v,.agg #[.int .i64 2,.int .i64 p]] w fun e w'=>J9 w B v (qs++st H 1 p) e w':=by
 cases hnd:nd H 2 p
 ·have e:st H 1 p=[]:=by unfold st;rw[hnd];rfl
  rw[e,List.append_nil];exact KB g H 2 p (by decide) (by decide) hp B hgB hnd v qs w hg hBw hv
 ·have e:st H 1 p=(2,p) :: (List.range 16).flatMap (fun i=>st H 0 (p+i*Ay 2)):=by
   have:st H 1 p=if nd H 2 p then (2,p) :: (List.range 16).flatMap (fun i=>st H 0 (p+i*Ay 2)) else []:=rfl;rw[this,hnd];rfl
  rw[e];refine I4 g H 2 p (by decide) (by decide) hp (st H 0) (fun q=>by have:=KT H q;omega) B hgB hnd 90000 (by decide) (fun i hi v qs w hg hBw hq hv=>?_) v qs hqs w hg hBw hv;rw[S9 2 i p (by decide) (by decide)];exact QW g H B hgB _ (show p+i*16+16<=4096 by omega) v qs (by omega) w hg hBw hv
theorem QB(g:Nat)(H:Nat->Ht)(B:Nat)(hgB:g<B)(v:Value)(qs:List (Nat×Nat))(hqs:qs.length<=80000)(w:World)(hg:CZ w g H)(hBw:B<=w.heap.size)(hv:A8 DM w B v qs):Calls prog 141 #[.pointer (some ⟨g,0,none⟩),v,.agg #[.int .i64 1,.int .i64 0]] w fun e w'=>J9 w B v (qs++st H 2 0) e w':=by
 have e:st H 2 0=(1,0) :: (List.range 16).flatMap (fun i=>st H 1 (0+i*Ay 1)):=by
  have:st H 2 0=if nd H 1 0 then (1,0) :: (List.range 16).flatMap (fun i=>st H 1 (0+i*Ay 1)) else []:=rfl;rw[this,Fe];rfl
 rw[e];refine I4 g H 1 0 (by decide) (by decide) (by decide) (st H 1) (fun q=>by have:=Xc H q;omega) B hgB (Fe H 0) 80000 (by decide) (fun i hi v qs w hg hBw hq hv=>?_) v qs hqs w hg hBw hv;rw[S9 1 i 0 (by decide) (by decide)];exact QH g H B hgB _ (show 0+i*256+256<=4096 by omega) v qs (by omega) w hg hBw hv
theorem MY(g:Nat)(H:Nat->Ht)(w:World)(hg:CZ w g H):Calls prog 84 #[.pointer (some ⟨g,0,none⟩)] w fun e w'=>∃g' c,e=.returned (.slice (some ⟨g',0,none⟩) (AJ H 256).length c)/\A8 DM w' w.heap.size (.slice (some ⟨g',0,none⟩) (AJ H 256).length c) (AJ H 256)/\Bl w w':=by
 have hc:=QB g H w.heap.size hg.lt (.slice none 0 0) [] (by simp) w hg (Nat.le_refl _) ⟨by simp[AK],.inl ⟨rfl,rfl⟩⟩;rw[List.nil_append,VF] at hc;have hpos:0<(AJ H 256).length:=by unfold AJ;simp
 have HP:=A5 hpos;clear hg hpos;generalize AJ H 256=L at hc HP ⊢;go_enter func84,ntmps84
 go_wp2_with fail
 refine hc.mono ?_;rintro e w1 ⟨v1,rfl,hr,hgr,_⟩;have hb:Bl w w1:=⟨hgr.os,hgr.tape,hgr.output,hgr.size,fun k hk=>hgr.block k hk (by intro e;cases e)⟩;obtain⟨a3,c,rfl,hf⟩:=hr.form;obtain⟨g2,N,f,rfl,_⟩:=hf HP.out;clear hgr hf hc;go_wp2_with fail
 go_ret;exact⟨g2,c,rfl,hr,hb⟩
theorem O6:Tryz.zeroCells220=Array.replicate 16384 (.int .i64 0):=by kernel_rfl
theorem Np(a:Option Addr)(cap b:Nat)(xs:List AE)(w:World)(hn:xs.length<=1048576)(hvs:VS xs)(h:A8 AA w b (.slice a xs.length cap) xs):Calls prog 83 #[.slice a xs.length cap] w fun e w'=>e=.returned (.pointer (some ⟨w.heap.size,0,none⟩))/\CZ w' w.heap.size (lay xs)/\Bl w w':=by
 have HAT:Hid (∀(p:Nat) wX,p<4096->Bl w wX->Calls prog 140 #[.slice a xs.length cap,.int .i64 p] wX (AM wX (.agg #[.int .i64 (Dz xs p).k,.int .i64 (Dz xs p).o,.int .i64 (Dz xs p).p,.int .i64 (Dz xs p).s]))):=fun p wX hp hX=>SI a cap b xs p wX hn hvs (by omega) (by omega) (h.below hX)
 clear h hvs;go_enter func83,ntmps83
 go_wp2_with fail
 go_loopw [7] (fun iv wr=>∃t:Nat,t<=4096/\iv=.int .i64 t/\(∃f,wr.rowIs w.heap.size 220 16384 f/\∀i,i<t->f (i*4)=.int .i64 (Dz xs i).k/\f (i*4+1)=.int .i64 (Dz xs i).o/\f (i*4+2)=.int .i64 (Dz xs i).p/\f (i*4+3)=.int .i64 (Dz xs i).s)/\Bl w wr) (fun iv _=>4096-(intOf iv).toNat)
 case atStart =>
  refine⟨0,Nat.zero_le _,rfl,⟨fun _=>.int .i64 0,?_,fun i hi=>absurd hi (by omega)⟩,?_⟩
  ·have h:=World.rowIs_alloc w Tryz.zeroCells220 220 (fun _=>.int .i64 0) (by
    intro i hi
    rw[O6] at hi ⊢
    rw[Array.getElem?_eq_getElem hi,Array.getElem_replicate])
   rw[O6,Array.size_replicate] at h;rw[O6];exact h
  ·exact AO
 case round =>
  obtain⟨t,ht,rfl,⟨f,hrow,hf⟩,hb⟩:=hrel;have hsz:=hb.size;by_cases hlt:t<4096
  ·(obtain⟨E,hE⟩:∃E,Dz xs (t:Nat)=E:=⟨_,rfl⟩);have HC:Hid (∀wX,Bl wr wX->Calls prog 140 #[.slice a xs.length cap,.int .i64 t] wX (AM wX (.agg #[.int .i64 E.k,.int .i64 E.o,.int .i64 E.p,.int .i64 E.s]))):=fun wX hX=>by
    have:=HAT.out t wX hlt (hb.trans (hX.mono hsz));rw[hE] at this;exact this
   have HEE:=A5 hE;clear hE;obtain⟨A,B,C,D⟩:=E;have HROW:=A5 hrow;have HF:=A5 hf;have HB:=A5 hb;(have L1:(0:Int)<=(t:Int):=by omega);(have L2:(t:Int)<4096:=by omega);clear hrow hf hb;(go_wp2_with fail);refine wp_region_held_drew (S:=fun _=>True) (by kernel_rfl) trivial (fun hHeld=>?_);refine tk 0 ?_;refine tk 1 ?_;refine tk 2 ?_;refine tk 3 ?_;refine tk 5 ?_;(refine Aj 4 fun K hK=>?_);go_simp;(go_at_call 140);refine(HC.out _ AH.drew).mono ?_;rintro e w1 ⟨rfl,hb1'⟩;have hb1:Bl wr w1:=AH.drew.trans (hb1'.mono (by simp));clear hb1';have HR1:Hid (w1.rowIs w.heap.size 220 16384 f):=HROW.out.of_block (hb1.block _ HROW.out.lt);have HB1:Hid (Bl w w1):=HB.out.trans (hb1.mono hsz);have f0:=HR1.out.frozen (t*4);have f1:=HR1.out.frozen (t*4+1);have f2:=HR1.out.frozen (t*4+2);have f3:=HR1.out.frozen (t*4+3);have o0:=HR1.out.cell (i:=t*4) (by omega);have o1:=HR1.out.cell (i:=t*4+1) (by omega);have o2:=HR1.out.cell (i:=t*4+2) (by omega);have o3:=HR1.out.cell (i:=t*4+3) (by omega);generalize f (t*4)=u0 at o0;generalize f (t*4+1)=u1 at o1;generalize f (t*4+2)=u2 at o2;generalize f (t*4+3)=u3 at o3;clear hb1;(go_wp2_with fail);refine hK.out _ _ trivial (fun hHeld2=>?_);clear hK K;refine tk 6 ?_;(refine Aj 7 fun K hK=>?_);go_simp;refine hK.out _ _ trivial (fun hHeld3=>?_);clear hK K;refine AZ ?_;(go_wp2_with fail);go_roundw;case rel =>
    refine⟨t+1,by omega,by go_num,⟨_,(((HR1.out.set (t*4) _).set (t*4+1) _).set (t*4+2) _).set (t*4+3) _,fun i hi=>?_⟩,?_⟩
    ·by_cases e:i=t
     ·subst e;rw[HEE.out];refine⟨?_,?_,?_,?_⟩<;>simp
     ·obtain⟨a0,a1,a2,a3⟩:=HF.out i (by omega);refine⟨?_,?_,?_,?_⟩
      ·rw[if_neg (by omega),if_neg (by omega),if_neg (by omega),if_neg (by omega)];exact a0
      ·rw[if_neg (by omega),if_neg (by omega),if_neg (by omega),if_neg (by omega)];exact a1
      ·rw[if_neg (by omega),if_neg (by omega),if_neg (by omega),if_neg (by omega)];exact a2
      ·rw[if_neg (by omega),if_neg (by omega),if_neg (by omega),if_neg (by omega)];exact a3
    ·exact(((HB1.out.setCell (Nat.le_refl _) _).setCell (Nat.le_refl _) _).setCell (Nat.le_refl _) _).setCell (Nat.le_refl _) _
   case measure=>simp[intOf];omega
  ·(have e:t=4096:=by omega);subst e;(go_wp2_with fail);go_ret;refine⟨rfl,⟨hrow.lt,fun p hp=>?_⟩,hb⟩;obtain⟨a0,a1,a2,a3⟩:=hf p hp;rw[JY xs p hp];exact⟨(hrow.cell (by omega)).trans (congrArg some a0),(hrow.cell (by omega)).trans (congrArg some a1),(hrow.cell (by omega)).trans (congrArg some a2),(hrow.cell (by omega)).trans (congrArg some a3)⟩
end Go.Proofs.YtnmhkgmmpkjjeaaGreat
