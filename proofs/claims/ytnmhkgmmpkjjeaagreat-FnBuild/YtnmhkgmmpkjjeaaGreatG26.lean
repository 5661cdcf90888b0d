import Derived.Test.YtnmhkgmmpkjjeaaGreatG22
import Derived.Test.YtnmhkgmmpkjjeaaGreatG16
import Derived.Test.YtnmhkgmmpkjjeaaGreatG25
namespace Go.Proofs.YtnmhkgmmpkjjeaaGreat
open Go.ChangeShapes Go.WideShapes Go.ChangeAt Go.RowKit
set_option linter.unusedVariables false
set_option maxRecDepth 100000
attribute [local go_sem ↓] Go.wp_at_zero Go.wp_at_succ
theorem specTN_any (a:Option Addr) (cap b:Nat) (xs:List SpanE) (w:World) (hn:xs.length<=1048576) (hwf:∀ i,i < xs.length->wfS (eAt eSpan xs i)) (h:ERow eSpan w b (.slice a xs.length cap) xs) :
  Calls Tryz.prog 69 #[.slice a xs.length cap] w fun e w'=>e=.returned (.int .i64 (tnF xs))/\Below w.heap.size w w':=by
 have hv:=specVS_any a cap b xs w hn hwf h
 have HH:Hid (∀ wX,VS xs->Below w.heap.size w wX->Calls Tryz.prog 71 #[.slice a xs.length cap] wX fun e w'=>∃ g c,e=.returned (.slice (some ⟨g,0,none⟩) 4096 c)/\ERow eHit w' wX.heap.size (.slice (some ⟨g,0,none⟩) 4096 c) (hitsTo xs 4096)/\Below wX.heap.size wX w'):=fun wX h1 hX=>l5Hits_any a cap b xs wX hn h1 (h.below hX)
 clear h hwf
 cases hvb:vsB xs <;> rw [hvb] at hv
 ·rw [tnF_no hvb]
  clear hvb HH
  go_enter Tryz.func69,Tryz.ntmps69
  go_wp2_with fail
  refine hv.mono ?_
  rintro e w1 ⟨rfl,hb1⟩
  go_wp2_with fail
  go_ret
  exact ⟨rfl,hb1⟩
 ·rw [tnF_yes hvb]
  have hvs:=VS.of_true hvb
  clear hvb
  go_enter Tryz.func69,Tryz.ntmps69
  go_wp2_with fail
  refine hv.mono ?_
  rintro e w1 ⟨rfl,hb1⟩
  have hh:=HH.out w1 hvs hb1
  have HB1:Hid _:=hb1
  clear hv hvs hb1 HH
  go_wp2_with fail
  refine hh.mono ?_
  rintro e w2 ⟨g,c,rfl,hr2,hb2⟩
  have hw:=l5Wanted_any g c w1.heap.size (hitsTo xs 4096) w2 (hitsTo_len xs 4096) (by rw [hitsTo_len]; exact hr2)
  have HB2:Hid (Below w.heap.size w w2):=HB1.out.trans (hb2.mono HB1.out.size)
  clear hh hr2 hb2
  go_wp2_with fail
  refine hw.mono ?_
  rintro e w3 ⟨g3,c3,rfl,hr3,hb3⟩
  have b3:Below w.heap.size w w3:=HB2.out.trans (hb3.mono HB2.out.size)
  clear hw hr3 hb3
  go_wp2_with fail
  go_ret
  exact ⟨rfl,b3⟩
end Go.Proofs.YtnmhkgmmpkjjeaaGreat
namespace Go.Proofs.YtnmhkgmmpkjjeaaGreat
open Go.ChangeShapes Go.WideShapes Go.ChangeAt Go.RowKit
set_option linter.unusedVariables false
set_option linter.unusedSimpArgs false
set_option maxRecDepth 100000
attribute [local go_sem ↓] Go.wp_at_zero Go.wp_at_succ
def anyQ (cs:List Int) (p:Nat):Nat:=p+1+5 * arN cs
def spoilt (cs:List Int) (q:Nat) (l:List SpanE):List SpanE:=spTo (tkV cs q 10) (tkV cs (q+1) l.length) (q+2) l l.length
abbrev anyB (cs:List Int) (p:Nat):Prop:=6<=tkV cs p 8/\0 < (drSp cs (p+1)).length
def anySp (cs:List Int) (p:Nat):List SpanE:=if anyB cs p then spoilt cs (anyQ cs p) (drSp cs (p+1)) else drSp cs (p+1)
def anyP (cs:List Int) (p:Nat):Nat:=if anyB cs p then anyQ cs p+2 else anyQ cs p
theorem anySp_q (cs:List Int) (p:Nat):(anySp cs p).length<=8192/\∀ i,i < (anySp cs p).length->SpQ (eAt eSpan (anySp cs p) i):=by
 obtain ⟨h1,h2⟩:=drSp_k cs (p+1)
 unfold anySp
 split
 ·have h3:=spTo_len (tkV cs (anyQ cs p) 10) (tkV cs (anyQ cs p+1) (drSp cs (p+1)).length) (anyQ cs p+2) (drSp cs (p+1)) (drSp cs (p+1)).length
  have h4:=spTo_q (tkV cs (anyQ cs p) 10) (tkV cs (anyQ cs p+1) (drSp cs (p+1)).length) (anyQ cs p+2) h2 (drSp cs (p+1)).length (Nat.le_refl _)
  refine ⟨by unfold spoilt; omega,fun i hi=>h4 _ ?_⟩
  unfold spoilt at hi ⊢
  unfold eAt
  rw [List.getD_eq_getElem?_getD,List.getElem?_eq_getElem hi]
  exact List.getElem_mem _
 ·exact ⟨by omega,fun i hi=>(h2 i hi).q⟩
theorem anyP_le (cs:List Int) (p:Nat):anyP cs p<=p+43:=by
 obtain ⟨b0,b1⟩:=arN_bd cs
 unfold anyP anyQ
 split <;> omega
set_option maxHeartbeats 4000000 in
theorem anySpans_any (a:Option Addr) (cap:Nat) (cs:List Int) (p:Nat) (w:World) (hc:Byt cs) (hp:p<=80000) (hs:BAt w a cs) :
  Calls Tryz.prog 67 #[.slice a cs.length cap,.int .i64 (p:Int)] w fun e w'=>SpPost w (anySp cs p) (anyP cs p) e w':=by
 have t1:=take_any a cap cs p 8 w hc (by omega) (by omega) hs
 have HT2:Hid (∀ wX,Below w.heap.size w wX->Calls Tryz.prog 66 #[.slice a cs.length cap,.int .i64 ((p:Int)+1),.int .i64 0] wX fun e w'=>SpPost wX (drSp cs (p+1)) (anyQ cs p) e w'):=hidP fun wX hX=>drawSpans_any a cap cs (p+1) wX hc (by omega) (hs.below hX)
 obtain ⟨hk1,hk2⟩:=drSp_k cs (p+1)
 obtain ⟨b0,b1⟩:=arN_bd cs
 have hQ:anyQ cs p<=90000:=by unfold anyQ; omega
 have HT3:Hid (∀ g c wX,0 < (drSp cs (p+1)).length->Below w.heap.size w wX->ERow eSpan wX w.heap.size (.slice (some ⟨g,0,none⟩) (drSp cs (p+1)).length c) (drSp cs (p+1))->Calls Tryz.prog 137 #[.slice a cs.length cap,.int .i64 (anyQ cs p:Int),.slice (some ⟨g,0,none⟩) (drSp cs (p+1)).length c] wX fun e w'=>∃ g c:Nat,e=.returned (.slice (some ⟨g,0,none⟩) (spoilt cs (anyQ cs p) (drSp cs (p+1))).length c)/\ERow eSpan w' wX.heap.size (.slice (some ⟨g,0,none⟩) (spoilt cs (anyQ cs p) (drSp cs (p+1))).length c) (spoilt cs (anyQ cs p) (drSp cs (p+1)))/\Below wX.heap.size wX w'):=hidP fun g c wX h0 hX hr=>spoil_any a cap cs (anyQ cs p) wX hc (by omega) (hs.below hX) g c w.heap.size _ h0 hk1 hk2 hr
 have HA:Hid (anySp cs p=if 6<=tkV cs p 8/\0 < (drSp cs (p+1)).length then spoilt cs (anyQ cs p) (drSp cs (p+1)) else drSp cs (p+1)):=hidP rfl
 have HP:Hid (anyP cs p=if 6<=tkV cs p 8/\0 < (drSp cs (p+1)).length then anyQ cs p+2 else anyQ cs p):=hidP rfl
 clear hc hs hk2
 generalize anySp cs p=AS at *
 generalize anyP cs p=AP at *
 generalize spoilt cs (anyQ cs p) (drSp cs (p+1))=SL at *
 generalize drSp cs (p+1)=L at *
 generalize anyQ cs p=q at *
 generalize tkV cs p 8=HW at *
 have W1:=wrp (x:=(q:Int)+2) (by omega)
 go_enter Tryz.func67,Tryz.ntmps67
 go_wp2_with fail
 refine t1.mono ?_
 rintro e w1 ⟨rfl,hb1⟩
 have t2:=HT2.out w1 hb1
 have HB1:Hid (Below w.heap.size w w1):=hb1
 clear t1 hb1 HT2
 go_wp2_with fail
 refine t2.mono ?_
 rintro e w2 ⟨g,c,rfl,hr,hb2⟩
 have HR:Hid (ERow eSpan w2 w.heap.size (.slice (some ⟨g,0,none⟩) L.length c) L):=hidP (hr.rebase HB1.out.size)
 have HB2:Hid (Below w.heap.size w w2):=hidP (HB1.out.trans (hb2.mono HB1.out.size))
 clear t2 hb2 hr
 by_cases h6:6<=HW
 ·have h6b:decide (6<=HW)=true:=by simpa using h6
  by_cases h0:0 < L.length
  ·have h0b:(0:Int) < (L.length:Int):=by omega
   have t3:=HT3.out g c w2 h0 HB2.out HR.out
   have HA1:Hid (AS=SL):=hidP (by rw [HA.out,if_pos ⟨h6,h0⟩])
   have HP1:Hid (AP=q+2):=hidP (by rw [HP.out,if_pos ⟨h6,h0⟩])
   clear HT3 HA HP
   go_wp2_with fail
   refine t3.mono ?_
   rintro e w3 ⟨g2,c2,rfl,hr3,hb3⟩
   have HR3:Hid (ERow eSpan w3 w.heap.size (.slice (some ⟨g2,0,none⟩) SL.length c2) SL):=hidP (hr3.rebase HB2.out.size)
   have HB3:Hid (Below w.heap.size w w3):=hidP (HB2.out.trans (hb3.mono HB2.out.size))
   clear t3 hr3 hb3
   go_wp2_with fail
   exact bodyPost_ret (v:=.tuple #[.slice (some ⟨g2,0,none⟩) SL.length c2,.int .i64 ((q:Int)+2)]) (by simp [results,Tryz.results67,go_sem]) rfl ⟨g2,c2,by rw [HA1.out,HP1.out]; rfl,by rw [HA1.out]; exact HR3.out,HB3.out⟩
  ·have h0b:¬ (0:Int) < (L.length:Int):=by omega
   have HA1:Hid (AS=L):=hidP (by rw [HA.out,if_neg (fun h=>h0 h.2)])
   have HP1:Hid (AP=q):=hidP (by rw [HP.out,if_neg (fun h=>h0 h.2)])
   clear HT3 HA HP
   go_wp2_with fail
   exact bodyPost_ret (v:=.tuple #[.slice (some ⟨g,0,none⟩) L.length c,.int .i64 (q:Int)]) (by simp [results,Tryz.results67,go_sem]) rfl ⟨g,c,by rw [HA1.out,HP1.out],by rw [HA1.out]; exact HR.out,HB2.out⟩
 ·have h6b:decide (6<=HW)=false:=by simpa using h6
  have HA1:Hid (AS=L):=hidP (by rw [HA.out,if_neg (fun h=>h6 h.1)])
  have HP1:Hid (AP=q):=hidP (by rw [HP.out,if_neg (fun h=>h6 h.1)])
  clear HT3 HA HP
  go_wp2_with fail
  exact bodyPost_ret (v:=.tuple #[.slice (some ⟨g,0,none⟩) L.length c,.int .i64 (q:Int)]) (by simp [results,Tryz.results67,go_sem]) rfl ⟨g,c,by rw [HA1.out,HP1.out],by rw [HA1.out]; exact HR.out,HB2.out⟩
def frX (x:Int) (z:Nat) (n:Int):Int:=if x=15 then (if (z:Int) % 3=0 then 0 else n - 1) else n+x % 4
theorem tnF_b (xs:List SpanE):0<=tnF xs/\tnF xs<=1000:=by
 unfold tnF
 split
 ·exact ⟨by omega,by have:=wPre_len (lay xs) 256; omega⟩
 ·exact ⟨by omega,by omega⟩
set_option maxHeartbeats 4000000 in
theorem drawFrames_any (a:Option Addr) (cap:Nat) (cs:List Int) (p:Nat) (w:World) (hc:Byt cs) (hp:p<=90000) (hs:BAt w a cs) (g c b:Nat) (xs:List SpanE) (hl:xs.length<=8192) (hq:∀ i,i < xs.length->SpQ (eAt eSpan xs i)) (hx:ERow eSpan w b (.slice (some ⟨g,0,none⟩) xs.length c) xs) :
  Calls Tryz.prog 92 #[.slice a cs.length cap,.int .i64 (p:Int),.slice (some ⟨g,0,none⟩) xs.length c,.slice (some ⟨g,0,none⟩) xs.length c] w fun e w'=>e=.returned (.tuple #[.int .i64 (frX (tkV cs p 16) (p+1) (tnF xs)),.int .i64 ((p:Int)+1)])/\Below w.heap.size w w':=by
 have t1:=take_any a cap cs p 16 w hc (by omega) (by omega) hs
 obtain ⟨bX0,bX1⟩:=tkV_bd cs p 16 (by omega) hc (by omega)
 have HTN:Hid (∀ wX,Below w.heap.size w wX->Calls Tryz.prog 69 #[.slice (some ⟨g,0,none⟩) xs.length c] wX fun e w'=>e=.returned (.int .i64 (tnF xs))/\Below wX.heap.size wX w'):=hidP fun wX hX=>specTN_any _ c b xs wX (by omega) (fun i hi=>(hq i hi).wf) (hx.below hX)
 obtain ⟨bn0,bn1⟩:=tnF_b xs
 clear hc hs hx hq
 generalize tkV cs p 16=X at *
 generalize tnF xs=n at *
 have HF:Hid (∀ x z n,frX x z n=if x=15 then (if (z:Int) % 3=0 then 0 else n - 1) else n+x % 4):=hidP fun x z n=>rfl
 generalize hF:frX X (p+1) n=R at *
 have HFR:=HF.out X (p+1) n
 rw [hF] at HFR
 have HFR:Hid _:=HFR
 clear hF HF
 obtain ⟨z3,hz3⟩:∃ z3:Int,((p+1:Nat):Int) % 3=z3:=⟨_,rfl⟩
 have ez3:((p:Int)+1).tmod 3=z3:=by rw [Int.tmod_eq_emod_of_nonneg (by omega)]; omega
 obtain ⟨x4,hx4⟩:∃ x4:Int,X % 4=x4:=⟨_,rfl⟩
 have ex4:X.tmod 4=x4:=by rw [Int.tmod_eq_emod_of_nonneg (by omega)]; omega
 have W1:=wrp (x:=n - 1) (by omega)
 have W2:=wrp (x:=n+x4) (by omega)
 rw [hz3,hx4] at HFR
 have HFR:Hid _:=HFR
 have Kn:¬ n < n:=by omega
 clear hz3 hx4
 go_enter Tryz.func92,Tryz.ntmps92
 go_wp2_with fail
 refine t1.mono ?_
 rintro e w1 ⟨rfl,hb1⟩
 have t2:=HTN.out w1 hb1
 have HB1:Hid (Below w.heap.size w w1):=hb1
 clear t1 hb1
 go_wp2_with fail
 refine t2.mono ?_
 rintro e w2 ⟨rfl,hb2⟩
 have HB2:Hid (Below w.heap.size w w2):=hidP (HB1.out.trans (hb2.mono HB1.out.size))
 have t3:=HTN.out w2 HB2.out
 clear t2 hb2 HTN
 go_wp2_with fail
 refine t3.mono ?_
 rintro e w3 ⟨rfl,hb3⟩
 have HB3:Hid (Below w.heap.size w w3):=hidP (HB2.out.trans (hb3.mono HB2.out.size))
 clear t3 hb3
 by_cases h15:X=15
 ·have h15b:(X == 15)=true:=by simpa using h15
  by_cases h3:z3=0
  ·have h3b:(z3 == 0)=true:=by simpa using h3
   have HE:Hid (R=0):=hidP (by rw [HFR.out,if_pos h15,if_pos h3])
   clear h15 h3 HFR
   go_wp2_with fail
   exact bodyPost_ret (v:=.tuple #[.int .i64 0,.int .i64 ((p:Int)+1)]) (by simp [results,Tryz.results92,go_sem]) rfl ⟨by rw [HE.out],HB3.out⟩
  ·have h3b:(z3 == 0)=false:=by simpa using h3
   have HE:Hid (R=n - 1):=hidP (by rw [HFR.out,if_pos h15,if_neg h3])
   clear h15 h3 HFR
   go_wp2_with fail
   exact bodyPost_ret (v:=.tuple #[.int .i64 (n - 1),.int .i64 ((p:Int)+1)]) (by simp [results,Tryz.results92,go_sem]) rfl ⟨by rw [HE.out],HB3.out⟩
 ·have h15b:(X == 15)=false:=by simpa using h15
  have HE:Hid (R=n+x4):=hidP (by rw [HFR.out,if_neg h15])
  clear h15 HFR
  go_wp2_with fail
  exact bodyPost_ret (v:=.tuple #[.int .i64 (n+x4),.int .i64 ((p:Int)+1)]) (by simp [results,Tryz.results92,go_sem]) rfl ⟨by rw [HE.out],HB3.out⟩
def bigS:SpanE:=⟨0,600,1,3,true⟩
def bdS (cs:List Int):List SpanE:=if tkV cs 0 16=14 then [bigS] else anySp cs 1
def bdN (cs:List Int):Int:=if tkV cs 0 16=14 then 42 - (anyP cs 1:Int) % 2 else if tkV cs 0 16=15 then 512+(anyP cs 1:Int) % 2 else frX (tkV cs (anyP cs 1) 16) (anyP cs 1+1) (tnF (anySp cs 1))
theorem frX_b {x:Int} (z:Nat) (n:Int) (hx:0<=x/\x < 16) (hn:0<=n/\n<=1000):-1<=frX x z n/\frX x z n<=2000:=by
 unfold frX
 repeat' split
 all_goals omega
theorem bdS_q (cs:List Int):(bdS cs).length<=8192/\∀ i,i < (bdS cs).length->SpQ (eAt eSpan (bdS cs) i):=by
 unfold bdS
 split
 ·refine ⟨by simp,fun i hi=>?_⟩
  obtain rfl:i=0:=by simpa using hi
  exact ⟨⟨by decide,by decide⟩,⟨by decide,by decide⟩,⟨by decide,by decide⟩,⟨by decide,by decide⟩⟩
 ·exact anySp_q cs 1
theorem bdN_b (cs:List Int) (hc:Byt cs):-1<=bdN cs/\bdN cs<=2000:=by
 unfold bdN
 repeat' split
 ·omega
 ·omega
 ·exact frX_b _ _ (tkV_bd cs _ 16 (by omega) hc (by have:=anyP_le cs 1; omega)) (tnF_b _)
set_option maxHeartbeats 4000000 in
theorem drawBuild_any (a:Option Addr) (cap:Nat) (cs:List Int) (w:World) (hc:Byt cs) (hs:BAt w a cs) :
  Calls Tryz.prog 29 #[.slice a cs.length cap] w fun e w'=>∃ g c,e=.returned (.tuple #[.slice (some ⟨g,0,none⟩) (bdS cs).length c,.int .i64 (bdN cs)])/\ERow eSpan w' w.heap.size (.slice (some ⟨g,0,none⟩) (bdS cs).length c) (bdS cs)/\Below w.heap.size w w':=by
 have t1:=take_any a cap cs 0 16 w hc (by omega) (by omega) hs
 have HT2:Hid (∀ wX,Below w.heap.size w wX->Calls Tryz.prog 67 #[.slice a cs.length cap,.int .i64 1] wX fun e w'=>SpPost wX (anySp cs 1) (anyP cs 1) e w'):=hidP fun wX hX=>anySpans_any a cap cs 1 wX hc (by omega) (hs.below hX)
 obtain ⟨hk1,hk2⟩:=anySp_q cs 1
 have hpl:=anyP_le cs 1
 have HT3:Hid (∀ g c wX,Below w.heap.size w wX->ERow eSpan wX w.heap.size (.slice (some ⟨g,0,none⟩) (anySp cs 1).length c) (anySp cs 1)->Calls Tryz.prog 92 #[.slice a cs.length cap,.int .i64 (anyP cs 1:Int),.slice (some ⟨g,0,none⟩) (anySp cs 1).length c,.slice (some ⟨g,0,none⟩) (anySp cs 1).length c] wX fun e w'=>e=.returned (.tuple #[.int .i64 (frX (tkV cs (anyP cs 1) 16) (anyP cs 1+1) (tnF (anySp cs 1))),.int .i64 ((anyP cs 1:Int)+1)])/\Below wX.heap.size wX w'):=hidP fun g c wX hX hr=>drawFrames_any a cap cs (anyP cs 1) wX hc (by omega) (hs.below hX) g c w.heap.size _ hk1 hk2 hr
 have HS:Hid (bdS cs=if tkV cs 0 16=14 then [bigS] else anySp cs 1):=hidP rfl
 have HN:Hid (bdN cs=if tkV cs 0 16=14 then 42 - (anyP cs 1:Int) % 2 else if tkV cs 0 16=15 then 512+(anyP cs 1:Int) % 2 else frX (tkV cs (anyP cs 1) 16) (anyP cs 1+1) (tnF (anySp cs 1))):=hidP rfl
 clear hc hs hk2
 generalize bdS cs=BS at *
 generalize bdN cs=BN at *
 generalize frX (tkV cs (anyP cs 1) 16) (anyP cs 1+1) (tnF (anySp cs 1))=FR at *
 generalize anySp cs 1=L at *
 generalize anyP cs 1=q at *
 generalize tkV cs 0 16=HW at *
 obtain ⟨q2,hq2⟩:∃ q2:Int,(q:Int) % 2=q2:=⟨_,rfl⟩
 have eq2:(q:Int).tmod 2=q2:=by rw [Int.tmod_eq_emod_of_nonneg (by omega)]; exact hq2
 have W1:=wrp (x:=42 - q2) (by omega)
 have W2:=wrp (x:=512+q2) (by omega)
 rw [hq2] at HN
 clear hq2
 go_enter Tryz.func29,Tryz.ntmps29
 go_wp2_with fail
 refine t1.mono ?_
 rintro e w1 ⟨rfl,hb1⟩
 have t2:=HT2.out w1 hb1
 have HB1:Hid (Below w.heap.size w w1):=hb1
 clear t1 hb1 HT2
 go_wp2_with fail
 refine t2.mono ?_
 rintro e w2 ⟨g,c,rfl,hr,hb2⟩
 have HR2:Hid (ERow eSpan w2 w.heap.size (.slice (some ⟨g,0,none⟩) L.length c) L):=hidP (hr.rebase HB1.out.size)
 have HB2:Hid (Below w.heap.size w w2):=hidP (HB1.out.trans (hb2.mono HB1.out.size))
 have t3:=HT3.out g c w2 HB2.out HR2.out
 clear t2 hb2 hr HT3
 go_wp2_with fail
 refine t3.mono ?_
 rintro e w3 ⟨rfl,hb3⟩
 have HR:Hid (ERow eSpan w3 w.heap.size (.slice (some ⟨g,0,none⟩) L.length c) L):=hidP (HR2.out.below hb3)
 have HB3:Hid (Below w.heap.size w w3):=hidP (HB2.out.trans (hb3.mono HB2.out.size))
 clear t3 hb3
 by_cases h14:HW=14
 ·have h14b:(HW == 14)=true:=by simpa using h14
  have HA1:Hid (BS=[bigS]):=hidP (by rw [HS.out,if_pos h14])
  have HP1:Hid (BN=42 - q2):=hidP (by rw [HN.out,if_pos h14])
  clear h14 HS HN
  go_wp2_with fail
  refine bodyPost_ret (v:=.tuple #[.slice (some ⟨w3.heap.size,0,none⟩) 1 1,.int .i64 (42 - q2)]) (by simp [results,Tryz.results29,go_sem]) rfl ⟨w3.heap.size,1,by rw [HA1.out,HP1.out]; rfl,?_,HB3.out.trans (Below.mono ?_ HB3.out.size)⟩
  ·rw [HA1.out]
   refine ERow.of_row (E:=eSpan) (n:=1) (cap:=1) (N:=5) (f:=fun i=>((eSpan.enc bigS)[i]?).getD (.bool false)) rfl HB3.out.size ?_ rfl (by omega) (by unfold maxLen; omega) ?_
   ·refine ⟨#[.int .i64 0,.int .i64 600,.int .i64 1,.int .i64 3,.bool true],heap_alloc_new _ _,rfl,fun i hi=>?_⟩
    rcases (show i=0\/i=1\/i=2\/i=3\/i=4 by omega) with rfl | rfl | rfl | rfl | rfl <;> rfl
   ·intro i hi j hj
    obtain rfl:i=0:=by omega
    simp [eCell,eAt]
  ·exact bal
 ·have h14b:(HW == 14)=false:=by simpa using h14
  have HA1:Hid (BS=L):=hidP (by rw [HS.out,if_neg h14])
  by_cases h15:HW=15
  ·have h15b:(HW == 15)=true:=by simpa using h15
   have HP1:Hid (BN=512+q2):=hidP (by rw [HN.out,if_neg h14,if_pos h15])
   clear h14 h15 HS HN
   go_wp2_with fail
   exact bodyPost_ret (v:=.tuple #[.slice (some ⟨g,0,none⟩) L.length c,.int .i64 (512+q2)]) (by simp [results,Tryz.results29,go_sem]) rfl ⟨g,c,by rw [HA1.out,HP1.out],by rw [HA1.out]; exact HR.out,HB3.out⟩
  ·have h15b:(HW == 15)=false:=by simpa using h15
   have HP1:Hid (BN=FR):=hidP (by rw [HN.out,if_neg h14,if_neg h15])
   clear h14 h15 HS HN
   go_wp2_with fail
   exact bodyPost_ret (v:=.tuple #[.slice (some ⟨g,0,none⟩) L.length c,.int .i64 FR]) (by simp [results,Tryz.results29,go_sem]) rfl ⟨g,c,by rw [HA1.out,HP1.out],by rw [HA1.out]; exact HR.out,HB3.out⟩
end Go.Proofs.YtnmhkgmmpkjjeaaGreat
namespace Go.Proofs.YtnmhkgmmpkjjeaaGreat
open Go.ChangeShapes Go.WideShapes Go.ChangeAt Go.RowKit
set_option linter.unusedVariables false
set_option maxRecDepth 100000
attribute [local go_sem ↓] Go.wp_at_zero Go.wp_at_succ
theorem implTN_any (a:Option Addr) (cap b:Nat) (xs:List SpanE) (w:World) (hn:xs.length<=1048576) (hwf:∀ i,i < xs.length->wfS (eAt eSpan xs i)) (h:ERow eSpan w b (.slice a xs.length cap) xs) :
  Calls Tryz.prog 30 #[.slice a xs.length cap] w fun e w'=>e=.returned (.int .i64 (tnF xs))/\Below w.heap.size w w':=by
 have hv:=implVS_any a cap b xs w hn hwf h
 have HH:Hid (∀ wX,VS xs->Below w.heap.size w wX->Calls Tryz.prog 83 #[.slice a xs.length cap] wX fun e w'=>e=.returned (.pointer (some ⟨wX.heap.size,0,none⟩))/\LayIs w' wX.heap.size (lay xs)/\Below wX.heap.size wX w'):=fun wX h1 hX=>layoutOf_any a cap b xs wX hn h1 (h.below hX)
 clear h hwf
 cases hvb:vsB xs <;> rw [hvb] at hv
 ·rw [tnF_no hvb]
  clear hvb HH
  go_enter Tryz.func30,Tryz.ntmps30
  go_wp2_with fail
  refine hv.mono ?_
  rintro e w1 ⟨rfl,hb1⟩
  go_wp2_with fail
  go_ret
  exact ⟨rfl,hb1⟩
 ·rw [tnF_yes hvb]
  have hvs:=VS.of_true hvb
  clear hvb
  go_enter Tryz.func30,Tryz.ntmps30
  go_wp2_with fail
  refine hv.mono ?_
  rintro e w1 ⟨rfl,hb1⟩
  have hh:=HH.out w1 hvs hb1
  have HB1:Hid _:=hb1
  clear hv hvs hb1 HH
  go_wp2_with fail
  refine hh.mono ?_
  rintro e w2 ⟨rfl,hl2,hb2⟩
  have hw:=seats_any _ _ w2 hl2
  have HB2:Hid (Below w.heap.size w w2):=HB1.out.trans (hb2.mono HB1.out.size)
  clear hh hl2 hb2
  go_wp2_with fail
  refine hw.mono ?_
  rintro e w3 ⟨g3,c3,rfl,hr3,hb3⟩
  have b3:Below w.heap.size w w3:=HB2.out.trans (hb3.mono HB2.out.size)
  clear hw hr3 hb3
  go_wp2_with fail
  go_ret
  exact ⟨rfl,b3⟩
end Go.Proofs.YtnmhkgmmpkjjeaaGreat
