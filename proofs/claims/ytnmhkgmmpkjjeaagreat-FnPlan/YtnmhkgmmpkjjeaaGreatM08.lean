import Derived.Test.YtnmhkgmmpkjjeaaGreatM07
namespace Go.Proofs.YtnmhkgmmpkjjeaaGreat
open ChangeShapes WideShapes ChangeAt RowKit Proofs.Tryz
set_option linter.all false
set_option maxRecDepth 100000
set_option maxHeartbeats 4000000
attribute [local go_sem ↓] wp_at_zero wp_at_succ
theorem Qr{W w1:World}(hb:Bl W w1):(∀b o,b<W.heap.size->w1.cell? ⟨b,o,none⟩=W.cell? ⟨b,o,none⟩)/\(∀b o,b<W.heap.size->w1.frozen? ⟨b,o,none⟩=W.frozen? ⟨b,o,none⟩) :=
 ⟨fun b o h=>hb.cell (p:=⟨b,o,none⟩) h,fun b o h=>hb.frozen (p:=⟨b,o,none⟩) h⟩
theorem QC(ba bx g cap:Nat)(n k:Nat)(page P C O R:Int)(G:Bool)(w:World)(hk:k<n)(hn:n<=1048576)(hok:At ⟨P,C,O,R,G⟩=true)(HK:Hid (∀wX,Bl w wX->(wX.cell? ⟨ba,0,none⟩=some (.slice (some ⟨g,0,none⟩) n cap)/\wX.cell? ⟨bx,0,none⟩=some (.int .i64 page))/\(wX.cell? ⟨g,k*5,none⟩=some (.int .i64 P)/\wX.cell? ⟨g,k*5+1,none⟩=some (.int .i64 C)/\wX.cell? ⟨g,k*5+2,none⟩=some (.int .i64 O)/\wX.cell? ⟨g,k*5+3,none⟩=some (.int .i64 R)/\wX.cell? ⟨g,k*5+4,none⟩=some (.bool G)))):Calls prog 178 #[.int .i64 k,.pointer (some ⟨ba,0,none⟩),.pointer (some ⟨bx,0,none⟩)] w fun e w'=>e=.returned (.bool (decide (page<P+C)))/\Bl w w':=by
 have hk7:=BC.1 hok;dsimp only at hk7;obtain⟨t1,t2,t3,_⟩:=hk7;have hse:=Fa P C O R G (by omega) (by omega) (by omega) (by omega);have L1:(0:Int)<=(k:Int):=by omega
 have L2:(k:Int)<(n:Int):=by omega
 clear hok;go_enter func178,ntmps178
 go_wp2_with fail
 go_region_held3 (fun wX=>(wX.cell? ⟨ba,0,none⟩=some (.slice (some ⟨g,0,none⟩) n cap)/\wX.cell? ⟨bx,0,none⟩=some (.int .i64 page))/\(wX.cell? ⟨g,k*5,none⟩=some (.int .i64 P)/\wX.cell? ⟨g,k*5+1,none⟩=some (.int .i64 C)/\wX.cell? ⟨g,k*5+2,none⟩=some (.int .i64 O)/\wX.cell? ⟨g,k*5+3,none⟩=some (.int .i64 R)/\wX.cell? ⟨g,k*5+4,none⟩=some (.bool G)))
  ((refine HK.out _ ?_;repeat (first|exact AH|with_reducible refine Below.drew ?_|refine Below.trans ?_ (hb1.mono (by first|omega|(simp<;>omega))))))
  (first|(go_at_call 107;refine(hse _).mono ?_;rintro e w1 ⟨rfl,hb1⟩))
 all_goals
  go_wp2_with fail
  go_ret
  exact⟨rfl,AH.drew.trans (hb1.mono (by simp))⟩
theorem QX(ba bx:Nat)(n:Nat)(p:Nat->Bool)(w:World)(hn:n<=1048576)(hf:∀wX,Bl w wX->∀i:Nat,i<n->Calls prog 178 #[.int .i64 i,.pointer (some ⟨ba,0,none⟩),.pointer (some ⟨bx,0,none⟩)] wX fun e w'=>e=.returned (.bool (p i))/\Bl wX w')(hmono:∀a b,a<=b->b<n->p a=true->p b=true):Calls prog 177 #[.int .i64 n,.func (.func 178) #[] #[.pointer (some ⟨ba,0,none⟩),.pointer (some ⟨bx,0,none⟩)]] w fun e w'=>∃r:Nat,e=.returned (.int .i64 r)/\r<=n/\(∀t,t<r->p t=false)/\(∀t,r<=t->t<n->p t=true)/\Bl w w':=by
 have HF:=A5 hf;have HM:=A5 hmono;clear hf hmono;go_enter func177,ntmps177
 go_wp2_with fail
 go_loopw [5,6] (fun s5 s6 wr=>∃(lo hi:Nat),s5=.int .i64 lo/\s6=.int .i64 hi/\lo<=hi/\hi<=n/\Hid ((∀t,t<lo->p t=false)/\(∀t,hi<=t->t<n->p t=true))/\Bl w wr) (fun s5 s6 _=>(intOf s6).toNat-(intOf s5).toNat)
 case atStart=>exact⟨0,n,rfl,rfl,Nat.zero_le _,Nat.le_refl _,⟨fun t ht=>absurd ht (Nat.not_lt_zero _),fun t h1 h2=>by omega⟩,AH⟩
 case round =>
  obtain⟨lo,hi,rfl,rfl,hlh,hin,I,hb⟩:=hrel;by_cases hlt:lo<hi
  ·have hc:=HF.out wr hb ((lo+hi)/2) (by omega);rw[show (((lo+hi)/2:Nat):Int)=((lo:Int)+(hi:Int))/2 by omega] at hc;have HB:=A5 hb;clear hb;cases hp:p ((lo+hi)/2)<;>rw[hp] at hc
   ·have HP:=A5 hp;clear hp;(go_wp2_with (go_at_call 178;refine hc.mono ?_;rintro e w' ⟨rfl,hb1⟩));go_roundw;case rel =>
     refine⟨(lo+hi)/2+1,hi,by rw[show ((lo:Int)+(hi:Int))/2+1=(((lo+hi)/2+1:Nat):Int) by omega],rfl,by omega,hin,⟨fun t ht=>?_,I.out.2⟩,Ab HB.out hb1⟩;cases h:p t with
     | false=>rfl
     | true=>have:=HM.out t ((lo+hi)/2) (by omega) (by omega) h;rw[HP.out] at this;cases this
    case measure=>simp[intOf];omega
   ·have HP:=A5 hp;clear hp;(go_wp2_with (go_at_call 178;refine hc.mono ?_;rintro e w' ⟨rfl,hb1⟩));go_roundw;case rel =>
     exact⟨lo,(lo+hi)/2,rfl,by rw[show ((lo:Int)+(hi:Int))/2=(((lo+hi)/2:Nat):Int) by omega],by omega,by omega,⟨I.out.1,fun t ht htn=>HM.out ((lo+hi)/2) t ht htn HP.out⟩,Ab HB.out hb1⟩
    case measure=>simp[intOf];omega
  ·(obtain rfl:hi=lo:=by omega);(go_wp2_with fail);go_ret;exact⟨hi,rfl,hin,I.out.1,I.out.2,hb⟩
theorem Wb(P C O R:Int)(G:Bool)(page:Int)(w:World)(hok:At ⟨P,C,O,R,G⟩=true)(hp0:0<=page)(hp1:page<4096):Calls prog 179 #[.agg #[.int .i64 P,.int .i64 C,.int .i64 O,.int .i64 R,.bool G],.int .i64 page] w fun e w'=>e=.returned (.bool (DO ⟨P,C,O,R,G⟩ page))/\Bl w w':=by
 have hk7:=BC.1 hok;dsimp only at hk7;obtain⟨t1,t2,t3,t4,t5,_⟩:=hk7;have hse:=Fa P C O R G (by omega) (by omega) (by omega) (by omega);have hm0:0<=page%16:=by omega
 clear hok;cases G
 ·have hr:DO ⟨P,C,O,R,false⟩ page=false:=rfl;rw[hr];clear hr hse;go_enter func179,ntmps179
  go_wp2_with fail
  go_ret;exact⟨rfl,AO⟩
 ·by_cases h1:P<=page-page%16
  ·by_cases h2:page-page%16+16<=P+C
   ·by_cases h3:(O+(page-page%16)-P)%16=0
    ·(have d3:((O+(page-page%16)-P)%16==0)=true:=by rw[h3];rfl);(have hr:DO ⟨P,C,O,R,true⟩ page=true:=by unfold DO;dsimp only;rw[decide_eq_true ⟨h1,h2,h3⟩];rfl);rw[hr];clear hr h3;(go_enter func179,ntmps179);(go_wp2_with (go_at_call 107;refine(hse _).mono ?_;rintro e w1 ⟨rfl,hb1⟩;obtain⟨hc1,hf1⟩:=Qr hb1));go_ret;exact⟨rfl,AO.trans (hb1.mono (by simp))⟩
    ·(have d3:((O+(page-page%16)-P)%16==0)=false:=by simpa using h3);(have hr:DO ⟨P,C,O,R,true⟩ page=false:=by unfold DO;dsimp only;rw[decide_eq_false (fun h=>h3 h.2.2)];rfl);rw[hr];clear hr h3;(go_enter func179,ntmps179);(go_wp2_with (go_at_call 107;refine(hse _).mono ?_;rintro e w1 ⟨rfl,hb1⟩;obtain⟨hc1,hf1⟩:=Qr hb1));go_ret;exact⟨rfl,AO.trans (hb1.mono (by simp))⟩
   ·have d2:decide (page-page%16+16<=P+C)=false:=decide_eq_false h2;(have hr:DO ⟨P,C,O,R,true⟩ page=false:=by unfold DO;dsimp only;rw[decide_eq_false (fun h=>h2 h.2.1)];rfl);rw[hr];clear hr h2;(go_enter func179,ntmps179);(go_wp2_with (go_at_call 107;refine(hse _).mono ?_;rintro e w1 ⟨rfl,hb1⟩;obtain⟨hc1,hf1⟩:=Qr hb1));go_ret;exact⟨rfl,AO.trans (hb1.mono (by simp))⟩
  ·have d1:decide (P<=page-page%16)=false:=decide_eq_false h1;(have hr:DO ⟨P,C,O,R,true⟩ page=false:=by unfold DO;dsimp only;rw[decide_eq_false (fun h=>h1 h.1)];rfl);rw[hr];clear hr h1 hse;(go_enter func179,ntmps179);(go_wp2_with fail);go_ret;exact⟨rfl,AO⟩
theorem Sz(P C O R:Int)(G:Bool)(page:Int)(w:World)(hok:At ⟨P,C,O,R,G⟩=true)(hp0:0<=page)(hp1:page<4096):Calls prog 132 #[.agg #[.int .i64 P,.int .i64 C,.int .i64 O,.int .i64 R,.bool G],.int .i64 page] w fun e w'=>e=.returned (.bool (DO ⟨P,C,O,R,G⟩ page))/\Bl w w':=by
 have hk7:=BC.1 hok;dsimp only at hk7;obtain⟨t1,t2,t3,t4,t5,_⟩:=hk7;have hm0:0<=page%16:=by omega
 clear hok;cases G
 ·have hr:DO ⟨P,C,O,R,false⟩ page=false:=rfl;rw[hr];clear hr;go_enter func132,ntmps132
  go_wp2_with fail
  go_ret;exact⟨rfl,AO⟩
 ·obtain⟨wb,hwb⟩:∃wb,wb=w.alloc (.cells #[.int .i64 P,.int .i64 C,.int .i64 O,.int .i64 R,.bool true] 103):=⟨_,rfl⟩
  have hbb:Bl w wb:=by rw[hwb];exact AO
  have q0:wb.cell? ⟨w.heap.size,0,none⟩=some (.int .i64 P):=by rw[hwb];simp[go_sem]
  have q1:wb.cell? ⟨w.heap.size,1,none⟩=some (.int .i64 C):=by rw[hwb];simp[go_sem]
  have q2:wb.cell? ⟨w.heap.size,2,none⟩=some (.int .i64 O):=by rw[hwb];simp[go_sem]
  have HWB:=A5 hwb;have HBB:=A5 hbb;clear hwb hbb;obtain⟨F,hF⟩:∃F,F=page-page%16:=⟨_,rfl⟩
  have f0:0<=F:=by omega
  have f1:F<4096:=by omega
  have HBG:Hid (DO ⟨P,C,O,R,true⟩ page=decide (P<=F/\F+16<=P+C/\(O+F-P)%16=0)):=by rw[hF];rfl
  go_enter func132,ntmps132
  go_wp2_with fail
  rw[<- HWB.out];rw[<- hF];clear hF;go_loopw [6] (fun i wr=>∃k:Nat,k<=16/\i=.int .i64 k/\Hid (∀j:Nat,j<k->P<=F+j/\F+j<P+C)/\wr=wb) (fun i _=>16-(intOf i).toNat)
  case atStart=>exact⟨0,by omega,rfl,fun j hj=>absurd hj (by omega),rfl⟩
  case round =>
   obtain⟨k,hk,rfl,hall,rfl⟩:=hrel;by_cases hlt:k<16
   ·(have L1:(k:Int)<16:=by omega);by_cases h1:F+k<P
    ·(have hr:DO ⟨P,C,O,R,true⟩ page=false:=by rw[HBG.out];exact decide_eq_false (by omega));have HR:=A5 hr;clear hr;(go_wp2_with fail);go_ret;exact⟨by rw[HR.out];rfl,HBB.out⟩
    ·by_cases h2:P+C<=F+k
     ·(have hr:DO ⟨P,C,O,R,true⟩ page=false:=by rw[HBG.out];exact decide_eq_false (by omega));have HR:=A5 hr;clear hr;(go_wp2_with fail);go_ret;exact⟨by rw[HR.out];rfl,HBB.out⟩
     ·(go_wp2_with fail);go_roundw;case rel =>
       refine⟨k+1,by omega,by go_num,fun j hj=>?_,by first|rfl|trivial⟩;by_cases e:j=k
       ·rw[e];omega
       ·exact hall.out j (by omega)
      case measure=>simp[intOf];omega
   ·(obtain rfl:k=16:=by omega);have a0:=hall.out 0 (by omega);have a15:=hall.out 15 (by omega);(have hP:P<=F:=by omega);(have hE:F+16<=P+C:=by omega);by_cases h3:(O+F-P)%16=0
    ·(have hr:DO ⟨P,C,O,R,true⟩ page=true:=by rw[HBG.out];exact decide_eq_true ⟨hP,hE,h3⟩);have HR:=A5 hr;clear hr hall a0 a15;(go_wp2_with fail);go_ret;exact⟨by rw[HR.out];rfl,HBB.out⟩
    ·(have d3:((O+F-P)%16==0)=false:=by simpa using h3);(have hr:DO ⟨P,C,O,R,true⟩ page=false:=by rw[HBG.out];exact decide_eq_false (fun h=>h3 h.2.2));have HR:=A5 hr;clear hr hall a0 a15;(go_wp2_with fail);go_ret;exact⟨by rw[HR.out];rfl,HBB.out⟩
theorem PC(a:Option Addr)(cap b:Nat)(xs:List AE)(page:Int)(w:World)(hn:xs.length<=1048576)(hvs:VS xs)(hp0:0<=page)(hp1:page<4096)(h:A8 AA w b (.slice a xs.length cap) xs):Calls prog 60 #[.slice a xs.length cap,.int .i64 page] w fun e w'=>e=.returned (.agg #[.int .i64 (Dz xs page).k,.int .i64 (Dz xs page).o,.int .i64 (Dz xs page).p,.int .i64 (Dz xs page).s])/\Bl w w':=by
 obtain⟨g,hg,hcs⟩:=Ho h;obtain⟨wb,hwb⟩:∃wb,wb=w.alloc (.cells #[.int .i64 0,.int .i64 0,.int .i64 0,.int .i64 0] 56):=⟨_,rfl⟩
 have hbb:Bl w wb:=by rw[hwb];exact AO
 have hzb:wb.heap.size=w.heap.size+1:=by rw[hwb];simp
 have HRS:Hid (∀wX,Bl wb wX->(wX.cell? ⟨w.heap.size,0,none⟩=some (.int .i64 0)/\wX.cell? ⟨w.heap.size,1,none⟩=some (.int .i64 0)/\wX.cell? ⟨w.heap.size,2,none⟩=some (.int .i64 0)/\wX.cell? ⟨w.heap.size,3,none⟩=some (.int .i64 0))/\wX.frozen? ⟨w.heap.size,0,none⟩=false/\wX.frozen? ⟨w.heap.size,1,none⟩=false/\wX.frozen? ⟨w.heap.size,2,none⟩=false/\wX.frozen? ⟨w.heap.size,3,none⟩=false):=fun wX hX=>by
  refine⟨⟨?_,?_,?_,?_⟩,?_,?_,?_,?_⟩;iterate 4 (exact(hX.cell (by simp;omega)).trans (by rw[hwb];simp[go_sem]))
  iterate 4 (exact(hX.frozen (by simp;omega)).trans (by rw[hwb];simp[go_sem]))
 have HG:=A5 hg;have HCS:=A5 hcs;have HVS:=A5 hvs;have HWB:=A5 hwb;have HBB:=A5 hbb;have HZ:=A5 hzb;clear h hg hcs hvs hwb hbb hzb;go_enter func60,ntmps60
 go_wp2_with fail
 rw[<- HWB.out];go_loopw [5] (fun i wr=>∃k:Nat,k<=xs.length/\i=.int .i64 k/\Hid (∀j,j<k->ID (AQ AA xs j) page=false)/\Bl wb wr) (fun i _=>xs.length-(intOf i).toNat)
 case atStart=>exact⟨0,Nat.zero_le _,rfl,fun j hj=>absurd hj (by omega),AH⟩
 case round =>
  obtain⟨k,hk,rfl,hall,hbw⟩:=hrel;by_cases hlt:k<xs.length
  ·obtain⟨rfl,hgl⟩:=HG.out (by omega);(obtain⟨E,hE⟩:∃E,AQ AA xs k=E:=⟨_,rfl⟩);obtain⟨P,C,O,R,G⟩:=E;(have hok:At ⟨P,C,O,R,G⟩=true:=by rw[<- hE];exact HVS.out.1 k hlt);have hk7:=BC.1 hok;dsimp only at hk7;obtain⟨t1,t2,t3,t4,t5,_⟩:=hk7;(have HK:Hid (∀wX,Bl wr wX->wX.cell? ⟨g,k*5,none⟩=some (.int .i64 P)/\wX.cell? ⟨g,k*5+1,none⟩=some (.int .i64 C)/\wX.cell? ⟨g,k*5+2,none⟩=some (.int .i64 O)/\wX.cell? ⟨g,k*5+3,none⟩=some (.int .i64 R)/\wX.cell? ⟨g,k*5+4,none⟩=some (.bool G)):=fun wX hX=>HCS.out k P C O R G hlt hE wX (HBB.out.trans ((Ab hbw hX).mono (by have:=HZ.out;omega))));have HE:=A5 hE;have HOK:=A5 hok;have HBW:=A5 hbw;(have L1:(0:Int)<=(k:Int):=by omega);(have L2:(k:Int)<(xs.length:Int):=by omega);have W0:=AR (P+C);have W1:=AR (O+page);have W2:=AR (O+page-P);clear hE hok hbw;by_cases h1:P<=page
   ·by_cases h2:page<P+C
    ·have HHIT:Hid (Dz xs page=IM ⟨P,C,O,R,G⟩ page):=by
      have:=Nd page xs k hlt hall.out (by rw[HE.out];unfold ID;exact decide_eq_true ⟨h1,h2⟩);rwa [HE.out] at this
     (go_wp2_with fail);refine wp_region_held_drew (S:=(fun wX=>wX.cell? ⟨g,k*5,none⟩=some (.int .i64 P)/\wX.cell? ⟨g,k*5+1,none⟩=some (.int .i64 C)/\wX.cell? ⟨g,k*5+2,none⟩=some (.int .i64 O)/\wX.cell? ⟨g,k*5+3,none⟩=some (.int .i64 R)/\wX.cell? ⟨g,k*5+4,none⟩=some (.bool G))) (by kernel_rfl) (HK.out _ (AH.drew)) (fun hHeld=>?_);refine tk 0 ?_;refine tk 1 ?_;refine tk 2 ?_;refine tk 3 ?_;refine tk 4 ?_;refine tk 5 ?_;refine tk 6 ?_;refine tk 7 ?_;refine tk 8 ?_;refine tk 9 ?_;refine tk 10 ?_;refine tk 11 ?_;refine tk 12 ?_;refine tk 13 ?_;refine tk 14 ?_;refine tk 15 ?_;refine tk 16 ?_;refine tk 17 ?_;refine tk 18 ?_;refine tk 19 ?_;refine tk 20 ?_;refine tk 21 ?_;refine AZ ?_;(go_wp2_with fail);(obtain⟨wa,hwa⟩:∃wa,wa=wr.drew:=⟨_,rfl⟩);rw[<- hwa];(have HAR:Hid (Bl wr wa):=by rw[hwa];exact AH.drew);(have HKA:Hid (∀wX,Bl wa wX->wX.cell? ⟨g,k*5,none⟩=some (.int .i64 P)/\wX.cell? ⟨g,k*5+1,none⟩=some (.int .i64 C)/\wX.cell? ⟨g,k*5+2,none⟩=some (.int .i64 O)/\wX.cell? ⟨g,k*5+3,none⟩=some (.int .i64 R)/\wX.cell? ⟨g,k*5+4,none⟩=some (.bool G)):=fun wX hX=>HK.out wX (Ab HAR.out hX));have HBA:Hid (Bl wb wa):=Ab HBW.out HAR.out;clear hwa hHeld;(go_cut [6] (fun d wx=>∃Z,d=.pointer (some ⟨Z,0,none⟩)/\(wx.cell? ⟨Z,0,none⟩=some (.int .i64 1)/\wx.cell? ⟨Z,1,none⟩=some (.int .i64 (O+page-P))/\wx.cell? ⟨Z,2,none⟩=some (.int .i64 R)/\wx.cell? ⟨Z,3,none⟩=some (.int .i64 1))/\wx.frozen? ⟨Z,3,none⟩=false/\wa.heap.size<=Z/\Z<wx.heap.size/\Bl wa wx));case first =>
      go_region_held3 (fun wX=>wX.cell? ⟨g,k*5,none⟩=some (.int .i64 P)/\wX.cell? ⟨g,k*5+1,none⟩=some (.int .i64 C)/\wX.cell? ⟨g,k*5+2,none⟩=some (.int .i64 O)/\wX.cell? ⟨g,k*5+3,none⟩=some (.int .i64 R)/\wX.cell? ⟨g,k*5+4,none⟩=some (.bool G))
       ((refine HKA.out _ ?_;exact BH)) (fail)
      all_goals
       go_wp2_with fail
       go_meet
       case rel =>
        refine⟨_,rfl,⟨?_,?_,?_,?_⟩,?_,?_,?_,?_⟩
        ·simp[go_sem]
        ·simp[go_sem]
        ·simp[go_sem]
        ·simp[go_sem]
        ·simp[go_sem]
        ·first|omega|(simp<;>omega)
        ·first|omega|(simp<;>omega)
        ·exact BH
     case rest =>
      (obtain⟨wx,rfl⟩:∃wx:World,wx=wc:=⟨_,rfl⟩);obtain⟨Z,rfl,hzc,hzf,hZ1,hZ2,hbx⟩:=hcut;(have HZC:Hid (∀wX,Bl wx wX->(wX.cell? ⟨Z,0,none⟩=some (.int .i64 1)/\wX.cell? ⟨Z,1,none⟩=some (.int .i64 (O+page-P))/\wX.cell? ⟨Z,2,none⟩=some (.int .i64 R)/\wX.cell? ⟨Z,3,none⟩=some (.int .i64 1))/\wX.frozen? ⟨Z,3,none⟩=false):=fun wX hX=>⟨⟨(hX.cell hZ2).trans hzc.1,(hX.cell hZ2).trans hzc.2.1,(hX.cell hZ2).trans hzc.2.2.1,(hX.cell hZ2).trans hzc.2.2.2⟩,(hX.frozen hZ2).trans hzf⟩);have HBX:Hid (Bl wb wx):=Ab HBA.out hbx;(have N1:w.heap.size≠Z:=by have:=HBA.out.size;have:=HZ.out;omega);have hbig:=Sz P C O R G page;(have hbg:=fun wX=>hbig wX HOK.out hp0 hp1);clear hzc hzf hbig;obtain⟨c0,c1,c2,c3,c4⟩:=HK.out wx (Ab HAR.out hbx);cases hbb2:DO ⟨P,C,O,R,G⟩ page<;>simp only[hbb2] at hbg
      ·(go_wp2_with fail);refine(hbg _).mono ?_;rintro e w2 ⟨rfl,hb2⟩;have HB2:Hid (Bl wb w2):=Ab HBX.out hb2;obtain⟨⟨z0,z1,z2,z3⟩,zf⟩:=HZC.out w2 hb2;obtain⟨⟨r0,r1,r2,r3⟩,f0,f1,f2,f3⟩:=HRS.out w2 HB2.out;(have HAT:Hid (Dz xs page=⟨1,O+page-P,R,1⟩):=by rw[HHIT.out];unfold IM;rw[hbb2];rfl);clear hb2 hbb2;(go_wp2_with fail);refine bodyPost_ret (v:=.agg #[.int .i64 1,.int .i64 (O+page-P),.int .i64 R,.int .i64 1]) (by simp[results,results60,go_sem,r0,r1,r2,r3]) rfl ⟨by rw[HAT.out],?_⟩;have B2:Bl w w2:=HBB.out.trans (HB2.out.mono (by have:=HZ.out;omega));(have zl:w.heap.size<=Z:=by have:=HBA.out.size;have:=HZ.out;omega);repeat (first|exact B2|refine Below.setCell ?_ (by first|exact zl|exact Nat.le_refl _|(dsimp only;omega)) _)
      ·(go_wp2_with fail);refine(hbg _).mono ?_;rintro e w2 ⟨rfl,hb2⟩;have HB2:Hid (Bl wb w2):=Ab HBX.out hb2;obtain⟨⟨z0,z1,z2,z3⟩,zf⟩:=HZC.out w2 hb2;obtain⟨⟨r0,r1,r2,r3⟩,f0,f1,f2,f3⟩:=HRS.out w2 HB2.out;(have HAT:Hid (Dz xs page=⟨1,O+page-P,R,16⟩):=by rw[HHIT.out];unfold IM;rw[hbb2];rfl);clear hb2 hbb2;(go_wp2_with fail);refine bodyPost_ret (v:=.agg #[.int .i64 1,.int .i64 (O+page-P),.int .i64 R,.int .i64 16]) (by simp[results,results60,go_sem,r0,r1,r2,r3]) rfl ⟨by rw[HAT.out],?_⟩;have B2:Bl w w2:=HBB.out.trans (HB2.out.mono (by have:=HZ.out;omega));(have zl:w.heap.size<=Z:=by have:=HBA.out.size;have:=HZ.out;omega);repeat (first|exact B2|refine Below.setCell ?_ (by first|exact zl|exact Nat.le_refl _|(dsimp only;omega)) _)
    ·have d2:decide (page<P+C)=false:=decide_eq_false h2;(have HIN:Hid (ID (AQ AA xs k) page=false):=by rw[HE.out];unfold ID;exact decide_eq_false (fun h=>h2 h.2));(go_wp2_with fail);refine wp_region_held_drew (S:=(fun wX=>wX.cell? ⟨g,k*5,none⟩=some (.int .i64 P)/\wX.cell? ⟨g,k*5+1,none⟩=some (.int .i64 C)/\wX.cell? ⟨g,k*5+2,none⟩=some (.int .i64 O)/\wX.cell? ⟨g,k*5+3,none⟩=some (.int .i64 R)/\wX.cell? ⟨g,k*5+4,none⟩=some (.bool G))) (by kernel_rfl) (HK.out _ (AH.drew)) (fun hHeld=>?_);refine tk 0 ?_;refine tk 1 ?_;refine tk 2 ?_;refine tk 3 ?_;refine tk 4 ?_;refine tk 5 ?_;refine tk 6 ?_;refine tk 7 ?_;refine tk 8 ?_;refine tk 9 ?_;refine tk 10 ?_;refine tk 11 ?_;refine tk 12 ?_;refine tk 13 ?_;refine tk 14 ?_;refine tk 15 ?_;refine tk 16 ?_;refine tk 17 ?_;refine tk 18 ?_;refine tk 19 ?_;refine tk 20 ?_;refine tk 21 ?_;refine AZ ?_;(go_wp2_with fail);go_roundw;case rel =>
      refine⟨k+1,by omega,by go_num,fun j hj=>?_,HBW.out.trans (AH.drew.mono HBW.out.size)⟩;by_cases e:j=k
      ·rw[e];exact HIN.out
      ·exact hall.out j (by omega)
     case measure=>simp[intOf];omega
   ·have d1:decide (P<=page)=false:=decide_eq_false h1;(have HIN:Hid (ID (AQ AA xs k) page=false):=by rw[HE.out];unfold ID;exact decide_eq_false (fun h=>h1 h.1));(go_wp2_with fail);refine wp_region_held_drew (S:=(fun wX=>wX.cell? ⟨g,k*5,none⟩=some (.int .i64 P)/\wX.cell? ⟨g,k*5+1,none⟩=some (.int .i64 C)/\wX.cell? ⟨g,k*5+2,none⟩=some (.int .i64 O)/\wX.cell? ⟨g,k*5+3,none⟩=some (.int .i64 R)/\wX.cell? ⟨g,k*5+4,none⟩=some (.bool G))) (by kernel_rfl) (HK.out _ (AH.drew)) (fun hHeld=>?_);refine tk 0 ?_;refine tk 1 ?_;refine tk 2 ?_;refine tk 3 ?_;refine tk 4 ?_;refine tk 5 ?_;refine tk 6 ?_;refine tk 7 ?_;refine sk 8 ?_;refine sk 9 ?_;refine sk 10 ?_;refine sk 11 ?_;refine sk 12 ?_;refine sk 13 ?_;refine sk 14 ?_;refine sk 15 ?_;refine sk 16 ?_;refine sk 17 ?_;refine sk 18 ?_;refine sk 19 ?_;refine sk 20 ?_;refine tk 21 ?_;refine AZ ?_;(go_wp2_with fail);go_roundw;case rel =>
     refine⟨k+1,by omega,by go_num,fun j hj=>?_,HBW.out.trans (AH.drew.mono HBW.out.size)⟩;by_cases e:j=k
     ·rw[e];exact HIN.out
     ·exact hall.out j (by omega)
    case measure=>simp[intOf];omega
  ·(have e:k=xs.length:=by omega);subst e;have HAT:Hid (Dz xs page=Ru):=Nl page xs hall.out;obtain⟨⟨r0,r1,r2,r3⟩,f0,f1,f2,f3⟩:=HRS.out wr hbw;have HB2:Hid (Bl w wr):=HBB.out.trans (hbw.mono (by have:=HZ.out;omega));clear hall hbw;(go_wp2_with fail);refine bodyPost_ret (v:=.agg #[.int .i64 0,.int .i64 0,.int .i64 0,.int .i64 0]) (by simp[results,results60,go_sem,r0,r1,r2,r3]) rfl ⟨by rw[HAT.out];rfl,?_⟩;exact(((HB2.out.setCell (by simp) _).setCell (by simp) _).setCell (by simp) _).setCell (by simp) _
theorem SI(a:Option Addr)(cap b:Nat)(xs:List AE)(page:Int)(w:World)(hn:xs.length<=1048576)(hvs:VS xs)(hp0:0<=page)(hp1:page<4096)(h:A8 AA w b (.slice a xs.length cap) xs):Calls prog 140 #[.slice a xs.length cap,.int .i64 page] w fun e w'=>e=.returned (.agg #[.int .i64 (Dz xs page).k,.int .i64 (Dz xs page).o,.int .i64 (Dz xs page).p,.int .i64 (Dz xs page).s])/\Bl w w':=by
 obtain⟨g,hg,hcs⟩:=Ho h;obtain⟨wb,hwb⟩:∃wb,wb=((w.alloc (.cells #[.slice a xs.length cap] 30)).alloc (.cells #[.int .i64 page] 3)).alloc (.cells #[.int .i64 0,.int .i64 0,.int .i64 0,.int .i64 0] 56):=⟨_,rfl⟩
 have hbb:Bl w wb:=by rw[hwb];exact(AO.alloc (by simp) _).alloc (by simp;omega) _
 have hzb:wb.heap.size=w.heap.size+3:=by rw[hwb];simp
 have HRS:Hid (∀wX,Bl wb wX->(wX.cell? ⟨w.heap.size+2,0,none⟩=some (.int .i64 0)/\wX.cell? ⟨w.heap.size+2,1,none⟩=some (.int .i64 0)/\wX.cell? ⟨w.heap.size+2,2,none⟩=some (.int .i64 0)/\wX.cell? ⟨w.heap.size+2,3,none⟩=some (.int .i64 0))/\wX.frozen? ⟨w.heap.size+2,0,none⟩=false/\wX.frozen? ⟨w.heap.size+2,1,none⟩=false/\wX.frozen? ⟨w.heap.size+2,2,none⟩=false/\wX.frozen? ⟨w.heap.size+2,3,none⟩=false):=fun wX hX=>by
  refine⟨⟨?_,?_,?_,?_⟩,?_,?_,?_,?_⟩;iterate 4 (exact(hX.cell (by simp;omega)).trans (by rw[hwb];simp[go_sem]))
  iterate 4 (exact(hX.frozen (by simp;omega)).trans (by rw[hwb];simp[go_sem]))
 have HB0:Hid (∀wX,Bl wb wX->wX.cell? ⟨w.heap.size,0,none⟩=some (.slice a xs.length cap)/\wX.cell? ⟨w.heap.size+1,0,none⟩=some (.int .i64 page)):=fun wX hX=>by
  refine⟨?_,?_⟩;iterate 2 (exact(hX.cell (by simp;omega)).trans (by rw[hwb];simp[go_sem]))
 have hsr:=QX w.heap.size (w.heap.size+1) xs.length (EU xs page) wb hn (fun wX hX i hi=>by
  obtain⟨rfl,hgl⟩:=hg (by omega)
  obtain⟨E,hE⟩:∃E,AQ AA xs i=E:=⟨_,rfl⟩
  obtain⟨P,C,O,R,G⟩:=E
  have:=QC w.heap.size (w.heap.size+1) g cap xs.length i page P C O R G wX hi hn (by rw[<- hE];exact hvs.1 i hi) (fun wY hY=>⟨HB0.out wY (Ab hX hY),hcs i P C O R G hi hE wY (hbb.trans ((Ab hX hY).mono (by omega)))⟩)
  unfold EU
  rw[hE]
  exact this) (fun a b hab hb ha=>Pl hvs page a b hab hb ha)
 rw[hwb] at hsr;have HG:=A5 hg;have HCS:=A5 hcs;have HVS:=A5 hvs;have HWB:=A5 hwb;have HBB:=A5 hbb;have HZ:=A5 hzb;clear h hg hcs hvs hwb hbb hzb;go_enter func140,ntmps140
 go_wp2_with fail
 refine hsr.mono ?_;rintro e w1 ⟨r,rfl,hr,hlo,hhi,hb1'⟩;have hb1:Bl wb w1:=by rw[HWB.out];exact hb1'
 have HLO:=A5 hlo;have HHI:=A5 hhi;have HB1:=A5 hb1;clear hsr hb1 hb1' hlo hhi;by_cases hlt:r<xs.length
 ·obtain⟨rfl,hgl⟩:=HG.out (by omega);obtain⟨E,hE⟩:∃E,AQ AA xs r=E:=⟨_,rfl⟩
  obtain⟨P,C,O,R,G⟩:=E;have hok:At ⟨P,C,O,R,G⟩=true:=by rw[<- hE];exact HVS.out.1 r hlt
  have hk7:=BC.1 hok;dsimp only at hk7;obtain⟨t1,t2,t3,t4,t5,_⟩:=hk7;have HK:Hid (∀wX,Bl w1 wX->(wX.cell? ⟨w.heap.size,0,none⟩=some (.slice (some ⟨g,0,none⟩) xs.length cap)/\wX.cell? ⟨w.heap.size+1,0,none⟩=some (.int .i64 page))/\(wX.cell? ⟨g,r*5,none⟩=some (.int .i64 P)/\wX.cell? ⟨g,r*5+1,none⟩=some (.int .i64 C)/\wX.cell? ⟨g,r*5+2,none⟩=some (.int .i64 O)/\wX.cell? ⟨g,r*5+3,none⟩=some (.int .i64 R)/\wX.cell? ⟨g,r*5+4,none⟩=some (.bool G))):=fun wX hX=>⟨HB0.out wX (Ab HB1.out hX),HCS.out r P C O R G hlt hE wX (HBB.out.trans ((Ab HB1.out hX).mono (by have:=HZ.out;omega)))⟩
  have HE:=A5 hE;have HOK:=A5 hok;have HEA:Hid (EU xs page r=true):=HHI.out r (Nat.le_refl _) hlt;have L1:(0:Int)<=(r:Int):=by omega
  have L2:(r:Int)<(xs.length:Int):=by omega
  have L3:((r:Int)==(xs.length:Int))=false:=by simp;omega
  have W1:=AR (O+page);have W2:=AR (O+page-P);clear hE hok;by_cases h1:page<P
  ·have HAT:Hid (Dz xs page=Ru):=H7 HVS.out page r HLO.out (.inr ⟨hlt,HEA.out,by rw[HE.out];exact h1⟩);have HB3:=A5 HB1;(go_wp2_with fail);refine wp_region_held_drew (S:=(fun wX=>(wX.cell? ⟨w.heap.size,0,none⟩=some (.slice (some ⟨g,0,none⟩) xs.length cap)/\wX.cell? ⟨w.heap.size+1,0,none⟩=some (.int .i64 page))/\(wX.cell? ⟨g,r*5,none⟩=some (.int .i64 P)/\wX.cell? ⟨g,r*5+1,none⟩=some (.int .i64 C)/\wX.cell? ⟨g,r*5+2,none⟩=some (.int .i64 O)/\wX.cell? ⟨g,r*5+3,none⟩=some (.int .i64 R)/\wX.cell? ⟨g,r*5+4,none⟩=some (.bool G)))) (by kernel_rfl) (HK.out _ (AH.drew)) (fun hHeld=>?_);refine tk 0 ?_;refine tk 1 ?_;refine tk 2 ?_;refine tk 3 ?_;refine tk 4 ?_;refine tk 5 ?_;refine tk 6 ?_;refine tk 7 ?_;refine tk 8 ?_;refine tk 9 ?_;refine tk 10 ?_;refine tk 11 ?_;refine tk 12 ?_;refine AZ ?_;clear hHeld;obtain⟨⟨r0,r1,r2,r3⟩,f0,f1,f2,f3⟩:=HRS.out w1 HB3.out;have HB4:Hid (Bl w w1):=HBB.out.trans (HB3.out.mono (by have:=HZ.out;omega));(go_wp2_with fail);refine bodyPost_ret (v:=.agg #[.int .i64 0,.int .i64 0,.int .i64 0,.int .i64 0]) (by simp[results,results140,go_sem,r0,r1,r2,r3]) rfl ⟨by rw[HAT.out];rfl,?_⟩;exact((((HB4.out.drew).setCell (by dsimp only;omega) _).setCell (by dsimp only;omega) _).setCell (by dsimp only;omega) _).setCell (by dsimp only;omega) _
  ·have d1:decide (page<P)=false:=decide_eq_false h1;have HHIT:Hid (Dz xs page=IM ⟨P,C,O,R,G⟩ page):=by
    have:=MO page r hlt HLO.out HEA.out (by rw[HE.out];exact Int.not_lt.1 h1);rwa [HE.out] at this
   (go_wp2_with fail);refine wp_region_held_drew (S:=(fun wX=>(wX.cell? ⟨w.heap.size,0,none⟩=some (.slice (some ⟨g,0,none⟩) xs.length cap)/\wX.cell? ⟨w.heap.size+1,0,none⟩=some (.int .i64 page))/\(wX.cell? ⟨g,r*5,none⟩=some (.int .i64 P)/\wX.cell? ⟨g,r*5+1,none⟩=some (.int .i64 C)/\wX.cell? ⟨g,r*5+2,none⟩=some (.int .i64 O)/\wX.cell? ⟨g,r*5+3,none⟩=some (.int .i64 R)/\wX.cell? ⟨g,r*5+4,none⟩=some (.bool G)))) (by kernel_rfl) (HK.out _ (AH.drew)) (fun hHeld=>?_);refine tk 0 ?_;refine tk 1 ?_;refine tk 2 ?_;refine tk 3 ?_;refine tk 4 ?_;refine tk 5 ?_;refine tk 6 ?_;refine tk 7 ?_;refine tk 8 ?_;refine tk 9 ?_;refine tk 10 ?_;refine tk 11 ?_;refine tk 12 ?_;refine AZ ?_;(go_wp2_with fail);(obtain⟨wa,hwa⟩:∃wa,wa=w1.drew:=⟨_,rfl⟩);rw[<- hwa];(have HAR:Hid (Bl w1 wa):=by rw[hwa];exact AH.drew);(have HKA:Hid (∀wX,Bl wa wX->(wX.cell? ⟨w.heap.size,0,none⟩=some (.slice (some ⟨g,0,none⟩) xs.length cap)/\wX.cell? ⟨w.heap.size+1,0,none⟩=some (.int .i64 page))/\(wX.cell? ⟨g,r*5,none⟩=some (.int .i64 P)/\wX.cell? ⟨g,r*5+1,none⟩=some (.int .i64 C)/\wX.cell? ⟨g,r*5+2,none⟩=some (.int .i64 O)/\wX.cell? ⟨g,r*5+3,none⟩=some (.int .i64 R)/\wX.cell? ⟨g,r*5+4,none⟩=some (.bool G))):=fun wX hX=>HK.out wX (Ab HAR.out hX));have HBA:Hid (Bl wb wa):=Ab HB1.out HAR.out;clear hwa hHeld;(go_cut [6] (fun d wx=>∃Z,d=.pointer (some ⟨Z,0,none⟩)/\(wx.cell? ⟨Z,0,none⟩=some (.int .i64 1)/\wx.cell? ⟨Z,1,none⟩=some (.int .i64 (O+page-P))/\wx.cell? ⟨Z,2,none⟩=some (.int .i64 R)/\wx.cell? ⟨Z,3,none⟩=some (.int .i64 1))/\wx.frozen? ⟨Z,3,none⟩=false/\wa.heap.size<=Z/\Z<wx.heap.size/\Bl wa wx));case first =>
    go_region_held3 (fun wX=>(wX.cell? ⟨w.heap.size,0,none⟩=some (.slice (some ⟨g,0,none⟩) xs.length cap)/\wX.cell? ⟨w.heap.size+1,0,none⟩=some (.int .i64 page))/\(wX.cell? ⟨g,r*5,none⟩=some (.int .i64 P)/\wX.cell? ⟨g,r*5+1,none⟩=some (.int .i64 C)/\wX.cell? ⟨g,r*5+2,none⟩=some (.int .i64 O)/\wX.cell? ⟨g,r*5+3,none⟩=some (.int .i64 R)/\wX.cell? ⟨g,r*5+4,none⟩=some (.bool G)))
     ((refine HKA.out _ ?_;exact BH)) (fail)
    all_goals
     go_wp2_with fail
     go_meet
     case rel =>
      refine⟨_,rfl,⟨?_,?_,?_,?_⟩,?_,?_,?_,?_⟩
      ·simp[go_sem]
      ·simp[go_sem]
      ·simp[go_sem]
      ·simp[go_sem]
      ·simp[go_sem]
      ·first|omega|(simp<;>omega)
      ·first|omega|(simp<;>omega)
      ·exact BH
   case rest =>
    (obtain⟨wx,rfl⟩:∃wx:World,wx=wc:=⟨_,rfl⟩);obtain⟨Z,rfl,hzc,hzf,hZ1,hZ2,hbx⟩:=hcut;(have HZC:Hid (∀wX,Bl wx wX->(wX.cell? ⟨Z,0,none⟩=some (.int .i64 1)/\wX.cell? ⟨Z,1,none⟩=some (.int .i64 (O+page-P))/\wX.cell? ⟨Z,2,none⟩=some (.int .i64 R)/\wX.cell? ⟨Z,3,none⟩=some (.int .i64 1))/\wX.frozen? ⟨Z,3,none⟩=false):=fun wX hX=>⟨⟨(hX.cell hZ2).trans hzc.1,(hX.cell hZ2).trans hzc.2.1,(hX.cell hZ2).trans hzc.2.2.1,(hX.cell hZ2).trans hzc.2.2.2⟩,(hX.frozen hZ2).trans hzf⟩);have HBX:Hid (Bl wb wx):=Ab HBA.out hbx;(have N1:w.heap.size+2≠Z:=by have:=HBA.out.size;have:=HZ.out;omega);have hbig:=Wb P C O R G page;(have hbg:=fun wX=>hbig wX HOK.out hp0 hp1);clear hzc hzf hbig;(have HKX:Hid (∀wX,Bl wx wX->(wX.cell? ⟨w.heap.size,0,none⟩=some (.slice (some ⟨g,0,none⟩) xs.length cap)/\wX.cell? ⟨w.heap.size+1,0,none⟩=some (.int .i64 page))/\(wX.cell? ⟨g,r*5,none⟩=some (.int .i64 P)/\wX.cell? ⟨g,r*5+1,none⟩=some (.int .i64 C)/\wX.cell? ⟨g,r*5+2,none⟩=some (.int .i64 O)/\wX.cell? ⟨g,r*5+3,none⟩=some (.int .i64 R)/\wX.cell? ⟨g,r*5+4,none⟩=some (.bool G))):=fun wX hX=>HKA.out wX (Ab hbx hX));cases hbb2:DO ⟨P,C,O,R,G⟩ page<;>simp only[hbb2] at hbg
    ·(go_wp2_with fail);go_region_held3 (fun wX=>(wX.cell? ⟨w.heap.size,0,none⟩=some (.slice (some ⟨g,0,none⟩) xs.length cap)/\wX.cell? ⟨w.heap.size+1,0,none⟩=some (.int .i64 page))/\(wX.cell? ⟨g,r*5,none⟩=some (.int .i64 P)/\wX.cell? ⟨g,r*5+1,none⟩=some (.int .i64 C)/\wX.cell? ⟨g,r*5+2,none⟩=some (.int .i64 O)/\wX.cell? ⟨g,r*5+3,none⟩=some (.int .i64 R)/\wX.cell? ⟨g,r*5+4,none⟩=some (.bool G)))
      ((refine HKX.out _ ?_;repeat (first|exact AH|with_reducible refine Below.drew ?_|refine Below.trans ?_ (hb2'.mono (by first|omega|(simp<;>omega))))))
      (first|(go_at_call 179;refine(hbg _).mono ?_;rintro e w2 ⟨rfl,hb2'⟩))
     have hb2:Bl wx w2:=AH.drew.trans (hb2'.mono (by simp));clear hb2';have HB2:Hid (Bl wb w2):=Ab HBX.out hb2;obtain⟨⟨z0,z1,z2,z3⟩,zf⟩:=HZC.out w2 hb2;obtain⟨⟨r0,r1,r2,r3⟩,f0,f1,f2,f3⟩:=HRS.out w2 HB2.out;(have HAT:Hid (Dz xs page=⟨1,O+page-P,R,1⟩):=by rw[HHIT.out];unfold IM;rw[hbb2];rfl);clear hb2 hbb2;(go_wp2_with fail);refine bodyPost_ret (v:=.agg #[.int .i64 1,.int .i64 (O+page-P),.int .i64 R,.int .i64 1]) (by simp[results,results140,go_sem,r0,r1,r2,r3]) rfl ⟨by rw[HAT.out],?_⟩;have B2:Bl w w2:=HBB.out.trans (HB2.out.mono (by have:=HZ.out;omega));(have zl:w.heap.size<=Z:=by have:=HBA.out.size;have:=HZ.out;omega);repeat (first|exact B2|refine Below.setCell ?_ (by first|exact zl|exact Nat.le_refl _|(dsimp only;omega)) _)
    ·(go_wp2_with fail);go_region_held3 (fun wX=>(wX.cell? ⟨w.heap.size,0,none⟩=some (.slice (some ⟨g,0,none⟩) xs.length cap)/\wX.cell? ⟨w.heap.size+1,0,none⟩=some (.int .i64 page))/\(wX.cell? ⟨g,r*5,none⟩=some (.int .i64 P)/\wX.cell? ⟨g,r*5+1,none⟩=some (.int .i64 C)/\wX.cell? ⟨g,r*5+2,none⟩=some (.int .i64 O)/\wX.cell? ⟨g,r*5+3,none⟩=some (.int .i64 R)/\wX.cell? ⟨g,r*5+4,none⟩=some (.bool G)))
      ((refine HKX.out _ ?_;repeat (first|exact AH|with_reducible refine Below.drew ?_|refine Below.trans ?_ (hb2'.mono (by first|omega|(simp<;>omega))))))
      (first|(go_at_call 179;refine(hbg _).mono ?_;rintro e w2 ⟨rfl,hb2'⟩))
     have hb2:Bl wx w2:=AH.drew.trans (hb2'.mono (by simp));clear hb2';have HB2:Hid (Bl wb w2):=Ab HBX.out hb2;obtain⟨⟨z0,z1,z2,z3⟩,zf⟩:=HZC.out w2 hb2;obtain⟨⟨r0,r1,r2,r3⟩,f0,f1,f2,f3⟩:=HRS.out w2 HB2.out;(have HAT:Hid (Dz xs page=⟨1,O+page-P,R,16⟩):=by rw[HHIT.out];unfold IM;rw[hbb2];rfl);clear hb2 hbb2;(go_wp2_with fail);refine bodyPost_ret (v:=.agg #[.int .i64 1,.int .i64 (O+page-P),.int .i64 R,.int .i64 16]) (by simp[results,results140,go_sem,r0,r1,r2,r3]) rfl ⟨by rw[HAT.out],?_⟩;have B2:Bl w w2:=HBB.out.trans (HB2.out.mono (by have:=HZ.out;omega));(have zl:w.heap.size<=Z:=by have:=HBA.out.size;have:=HZ.out;omega);repeat (first|exact B2|refine Below.setCell ?_ (by first|exact zl|exact Nat.le_refl _|(dsimp only;omega)) _)
 ·obtain rfl:r=xs.length:=by omega
  have HAT:Hid (Dz xs page=Ru):=H7 HVS.out page xs.length HLO.out (.inl rfl);have HB3:=A5 HB1;have HB01:Hid (∀wX,Bl w1 wX->wX.cell? ⟨w.heap.size,0,none⟩=some (.slice a xs.length cap)/\wX.cell? ⟨w.heap.size+1,0,none⟩=some (.int .i64 page)):=fun wX hX=>HB0.out wX (Ab HB1.out hX)
  go_wp2_with fail
  refine wp_region_held_drew (S:=(fun wX=>wX.cell? ⟨w.heap.size,0,none⟩=some (.slice a xs.length cap)/\wX.cell? ⟨w.heap.size+1,0,none⟩=some (.int .i64 page))) (by kernel_rfl) (HB01.out _ (AH.drew)) (fun hHeld=>?_);refine tk 0 ?_;refine tk 1 ?_;refine tk 2 ?_;refine tk 3 ?_;refine tk 4 ?_;refine sk 5 ?_;refine sk 6 ?_;refine sk 7 ?_;refine sk 8 ?_;refine sk 9 ?_;refine sk 10 ?_;refine sk 11 ?_;refine tk 12 ?_;refine AZ ?_;clear hHeld;obtain⟨⟨r0,r1,r2,r3⟩,f0,f1,f2,f3⟩:=HRS.out w1 HB3.out;have HB4:Hid (Bl w w1):=HBB.out.trans (HB3.out.mono (by have:=HZ.out;omega));go_wp2_with fail
  refine bodyPost_ret (v:=.agg #[.int .i64 0,.int .i64 0,.int .i64 0,.int .i64 0]) (by simp[results,results140,go_sem,r0,r1,r2,r3]) rfl ⟨by rw[HAT.out];rfl,?_⟩;exact((((HB4.out.drew).setCell (by dsimp only;omega) _).setCell (by dsimp only;omega) _).setCell (by dsimp only;omega) _).setCell (by dsimp only;omega) _
end Go.Proofs.YtnmhkgmmpkjjeaaGreat
