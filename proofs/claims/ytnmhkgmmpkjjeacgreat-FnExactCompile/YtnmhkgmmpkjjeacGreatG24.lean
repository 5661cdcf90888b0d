import Derived.Test.YtnmhkgmmpkjjeacGreatG12
import Derived.Test.YtnmhkgmmpkjjeacGreatG23
namespace Go.Proofs.YtnmhkgmmpkjjeacGreat
open Go.ChangeShapes Go.WideShapes Go.ChangeAt Go.RowKit
set_option linter.unusedVariables false
set_option maxRecDepth 100000
attribute [local go_sem ↓] Go.wp_at_zero Go.wp_at_succ
theorem pAt_mem {ps:List P3} {k:Nat} (hk:k < ps.length):pAt ps k ∈ ps:=by
 unfold pAt
 rw [List.getD_eq_getElem?_getD,List.getElem?_eq_getElem hk]
 exact List.getElem_mem hk
theorem mem_pAt {ps:List P3} {q:P3} (h:q ∈ ps):∃ k,k < ps.length/\pAt ps k=q:=by
 obtain ⟨k,hk,e⟩:=List.getElem_of_mem h
 refine ⟨k,hk,?_⟩
 unfold pAt
 rw [List.getD_eq_getElem?_getD,List.getElem?_eq_getElem hk]
 exact e
theorem frOf_first {ps:List P3} {lv pg:Int} {k:Nat} (hk:k < ps.length) (h:∀ j,j < k->sameS lv pg (pAt ps j)=false) (h2:sameS lv pg (pAt ps k)=true):frOf ps lv pg=(pAt ps k).fr:=by
 induction ps generalizing k with
 | nil=>simp at hk
 | cons p r ih =>
  cases k with
  | zero =>
   have h2':sameS lv pg p=true:=h2
   unfold frOf
   rw [List.find?_cons_of_pos h2']
   rfl
  | succ k =>
   have h0:sameS lv pg p=false:=h 0 (by omega)
   have:=ih (k:=k) (by simpa using hk) (fun j hj=>h (j+1) (by omega)) h2
   unfold frOf at this ⊢
   rw [List.find?_cons_of_neg (by rw [h0]; decide)]
   exact this
theorem frOf_none {ps:List P3} {lv pg:Int} (h:∀ j,j < ps.length->sameS lv pg (pAt ps j)=false):frOf ps lv pg=-1:=frOf_neg (fun q hq hh=>by
 obtain ⟨k,hk,e⟩:=mem_pAt hq
 have:=h k hk
 unfold sameS at this
 rw [e,decide_eq_true hh] at this
 cases this)
theorem hasFr_at {ps:List P3} {f:Int} {k:Nat} (hk:k < ps.length) (h:(pAt ps k).fr=f):hasFr ps f=true:=hasFr_iff.2 ⟨_,pAt_mem hk,h⟩
theorem hasFr_no {ps:List P3} {f:Int} (h:∀ j,j < ps.length->decide ((pAt ps j).fr=f)=false):hasFr ps f=false:=by
 cases hc:hasFr ps f
 ·rfl
 ·obtain ⟨q,hq,e⟩:=hasFr_iff.1 hc
  obtain ⟨k,hk,e2⟩:=mem_pAt hq
  have:=h k hk
  rw [e2,decide_eq_true e] at this
  cases this
theorem hasFr_any (a:Option Addr) (c b:Nat) (ps:List P3) (f:Int) (w:World) (hle:ps.length<=4000) (hr:PRow w b (.slice a ps.length c) ps) :
  Calls Tryz.prog 40 #[.slice a ps.length c,.int .i64 f] w fun e w'=>e=.returned (.bool (hasFr ps f))/\w'=w:=by
 obtain ⟨gp,hp1,hp2⟩:=plc_cells hr
 have HP1:Hid _:=hp1
 have HP2:Hid _:=hp2
 clear hr hp1 hp2
 go_enter Tryz.func40,Tryz.ntmps40
 go_wp2_with fail
 go_loopw [5] (fun i wr=>∃ k:Nat,k<=ps.length/\i=.int .i64 k/\Hid (∀ j,j < k->decide ((pAt ps j).fr=f)=false)/\wr=w) (fun i _=>ps.length - (intOf i).toNat)
 case atStart=>exact ⟨0,Nat.zero_le _,rfl,fun j hj=>absurd hj (by omega),rfl⟩
 case round =>
  obtain ⟨k,hk,rfl,hall,rfl⟩:=hrel
  by_cases hlt:k < ps.length
  ·obtain ⟨E,hE⟩:∃ E,pAt ps k=E:=⟨_,rfl⟩
   obtain ⟨F,L,P⟩:=E
   obtain ⟨rfl,hgl⟩:=HP1.out (by omega)
   obtain ⟨c0,c1,c2⟩:=HP2.out k F L P hlt hE _ (Below.refl _ _)
   have HE:Hid (pAt ps k=_):=hE
   have L1:(0:Int)<=(k:Int):=by omega
   have L2:(k:Int) < (ps.length:Int):=by omega
   clear hE
   by_cases hf:F=f
   ·have d:(F == f)=true:=by simpa using hf
    have HR:Hid (hasFr ps f=true):=hasFr_at hlt (by rw [HE.out]; exact hf)
    clear hf
    go_wp2_with fail
    go_ret
    exact ⟨by rw [HR.out]; rfl,rfl⟩
   ·have d:(F == f)=false:=by simpa using hf
    have HN:Hid (decide ((pAt ps k).fr=f)=false):=by rw [HE.out]; exact decide_eq_false hf
    clear hf
    go_wp2_with fail
    go_roundw
    case rel =>
     refine ⟨k+1,by omega,by go_num,fun j hj=>?_,by first | rfl | trivial⟩
     by_cases e:j=k
     ·rw [e]; exact HN.out
     ·exact hall.out j (by omega)
    case measure=>simp [intOf]; omega
  ·have HR:Hid (hasFr ps f=false):=hasFr_no (fun j hj=>hall.out j (by omega))
   go_wp2_with fail
   go_ret
   exact ⟨by rw [HR.out]; rfl,rfl⟩
set_option maxHeartbeats 1000000 in
theorem l5Frame_any (a:Option Addr) (c b:Nat) (ps:List P3) (lv pg:Int) (w:World) (hle:ps.length<=4000) (hr:PRow w b (.slice a ps.length c) ps) :
  Calls Tryz.prog 32 #[.slice a ps.length c,.int .i64 lv,.int .i64 pg] w fun e w'=>e=.returned (.int .i64 (frOf ps lv pg))/\w'=w:=by
 obtain ⟨gp,hp1,hp2⟩:=plc_cells hr
 have HP1:Hid _:=hp1
 have HP2:Hid _:=hp2
 clear hr hp1 hp2
 go_enter Tryz.func32,Tryz.ntmps32
 go_wp2_with fail
 go_loopw [7] (fun i wr=>∃ k:Nat,k<=ps.length/\i=.int .i64 k/\Hid (∀ j,j < k->sameS lv pg (pAt ps j)=false)/\wr=w) (fun i _=>ps.length - (intOf i).toNat)
 case atStart=>exact ⟨0,Nat.zero_le _,rfl,fun j hj=>absurd hj (by omega),rfl⟩
 case round =>
  obtain ⟨k,hk,rfl,hall,rfl⟩:=hrel
  by_cases hlt:k < ps.length
  ·obtain ⟨E,hE⟩:∃ E,pAt ps k=E:=⟨_,rfl⟩
   obtain ⟨F,L,P⟩:=E
   obtain ⟨rfl,hgl⟩:=HP1.out (by omega)
   obtain ⟨c0,c1,c2⟩:=HP2.out k F L P hlt hE _ (Below.refl _ _)
   have HE:Hid (pAt ps k=_):=hE
   have L1:(0:Int)<=(k:Int):=by omega
   have L2:(k:Int) < (ps.length:Int):=by omega
   clear hE
   by_cases hf:L=lv
   ·have d:(L == lv)=true:=by simpa using hf
    by_cases hg:P=pg
    ·have d2:(P == pg)=true:=by simpa using hg
     have HR:Hid (frOf ps lv pg=F):=hidOf <| by
      rw [frOf_first hlt hall.out (by rw [HE.out]; exact decide_eq_true ⟨hf,hg⟩),HE.out]
     clear hf hg
     go_wp2_with fail
     go_ret
     exact ⟨by rw [HR.out]; rfl,rfl⟩
    ·have d2:(P == pg)=false:=by simpa using hg
     have HN:Hid (sameS lv pg (pAt ps k)=false):=hidOf <| by rw [HE.out]; exact decide_eq_false (fun h=>hg h.2)
     clear hf hg
     go_wp2_with fail
     go_roundw
     case rel =>
      refine ⟨k+1,by omega,by go_num,fun j hj=>?_,by first | rfl | trivial⟩
      by_cases e:j=k
      ·rw [e]; exact HN.out
      ·exact hall.out j (by omega)
     case measure=>simp [intOf]; omega
   ·have d:(L == lv)=false:=by simpa using hf
    have HN:Hid (sameS lv pg (pAt ps k)=false):=hidOf <| by rw [HE.out]; exact decide_eq_false (fun h=>hf h.1)
    clear hf
    go_wp2_with fail
    go_roundw
    case rel =>
     refine ⟨k+1,by omega,by go_num,fun j hj=>?_,by first | rfl | trivial⟩
     by_cases e:j=k
     ·rw [e]; exact HN.out
     ·exact hall.out j (by omega)
    case measure=>simp [intOf]; omega
  ·have HR:Hid (frOf ps lv pg=-1):=frOf_none (fun j hj=>hall.out j (by omega))
   go_wp2_with fail
   go_ret
   exact ⟨by rw [HR.out]; rfl,rfl⟩
theorem l5Lowest_any (a:Option Addr) (c b:Nat) (ps:List P3) (w:World) (hle:ps.length<=4000) (hr:PRow w b (.slice a ps.length c) ps) :
  Calls Tryz.prog 33 #[.slice a ps.length c] w fun e w'=>e=.returned (.int .i64 (lowF ps:Nat))/\w'=w:=by
 have hh:=fun f=>hasFr_any a c b ps f w hle hr
 have HH:Hid _:=hh
 clear hr hh
 go_enter Tryz.func33,Tryz.ntmps33
 go_wp2_with fail
 go_loopw [3] (fun i wr=>∃ k:Nat,i=.int .i64 k/\Hid (∀ g:Nat,g < k->hasFr ps g=true)/\wr=w) (fun i _=>ps.length - (intOf i).toNat)
 case atStart=>exact ⟨0,rfl,fun j hj=>absurd hj (by omega),rfl⟩
 case round =>
  obtain ⟨k,rfl,hall,rfl⟩:=hrel
  have hkl:=low_le hall.out
  have hc:=HH.out k
  cases hk:hasFr ps k
  ·rw [hk] at hc
   have HL:Hid (lowF ps=k):=lowF_eq hall.out hk
   clear hk
   go_wp2_with (go_at_call 40; refine hc.mono ?_; rintro e w1 ⟨rfl,hw1⟩; obtain rfl:=hw1.symm)
   go_ret
   exact ⟨by rw [HL.out]; rfl,rfl⟩
  ·rw [hk] at hc
   have HK:Hid (hasFr ps k=true):=hk
   have hkl2:k+1<=ps.length:=low_le (fun g hg=>by
    by_cases e:g=k
    ·rw [e]; exact hk
    ·exact hall.out g (by omega))
   clear hk
   go_wp2_with (go_at_call 40; refine hc.mono ?_; rintro e w1 ⟨rfl,hw1⟩; obtain rfl:=hw1.symm)
   go_roundw
   case rel =>
    refine ⟨k+1,by go_num,fun g hg=>?_,by first | rfl | trivial⟩
    by_cases e:g=k
    ·rw [e]; exact HK.out
    ·exact hall.out g (by omega)
   case measure=>simp [intOf]; omega
set_option maxHeartbeats 1000000 in
theorem l5Right_1 (g c b:Nat) (Hs:List Ht) (a:Option Addr) (cp bp:Nat) (ps:List P3) (p:Nat) (w:World) (hl:Hs.length=4096) (hp:p < 4096) (h:ERow eHit w b (.slice (some ⟨g,0,none⟩) Hs.length c) Hs) (hle:ps.length<=4000) (hr:PRow w bp (.slice a ps.length cp) ps) :
  Calls Tryz.prog 35 #[.slice (some ⟨g,0,none⟩) 4096 c,.slice a ps.length cp,.int .i64 1,.int .i64 p] w fun e w'=>e=.returned (.int .u64 (rgt (hF Hs) ps 1 p))/\Below w.heap.size w w':=by
 obtain ⟨hgl,c0,c1,c2,c3⟩:=eHit_cells h p (by omega)
 obtain ⟨E,hE⟩:∃ E,hF Hs p=E:=⟨_,rfl⟩
 have hE':eAt eHit Hs p=E:=hE
 rw [hE'] at c0 c1 c2 c3
 obtain ⟨A,B,C,D⟩:=E
 dsimp only at c0 c1 c2 c3
 have hT:((p:Nat):Int).toNat=p:=rfl
 have L1:(0:Int)<=(p:Int):=by omega
 have L2:(p:Int) < 4096:=by omega
 have HFR:Hid (∀ wX,Below w.heap.size w wX->Calls Tryz.prog 32 #[.slice a ps.length cp,.int .i64 2,.int .i64 p] wX fun e w'=>e=.returned (.int .i64 (frOf ps 2 p))/\w'=wX):=fun wX hX=>l5Frame_any a cp bp ps 2 p wX hle (hr.below hX)
 have HV0:Hid (rgt (hF Hs) ps 1 p=if frOf ps 2 p < 0 then 0 else encI 1 1 (frOf ps 2 p) 0):=hidOf <| by unfold rgt; rw [if_neg (by decide),if_neg (fun h=>absurd h.1 (by decide))]; rfl
 generalize frOf ps 2 p=F at HV0 HFR
 clear hE hE' h hr hT
 have hfr:=HFR.out (w.alloc (.cells #[.int .i64 A,.int .i64 B,.int .i64 C,.int .i64 D] 110)) ((Below.refl _ _).alloc (Nat.le_refl _) _)
 by_cases hF0:F < 0
 ·have dF:decide (F < 0)=true:=decide_eq_true hF0
  have HV:Hid (rgt (hF Hs) ps 1 p=0):=hidOf <| by rw [HV0.out,if_pos hF0]
  clear hF0 HV0
  go_enter Tryz.func35,Tryz.ntmps35
  go_wp2_with (go_at_call 32; refine hfr.mono ?_; rintro e w1 ⟨rfl,hw1⟩; subst hw1)
  go_ret
  refine ⟨by rw [HV.out]; rfl,?_⟩
  exact (Below.refl _ _).alloc (Nat.le_refl _) _
 ·have dF:decide (F < 0)=false:=decide_eq_false hF0
  have HV:Hid (rgt (hF Hs) ps 1 p=encI 1 1 F 0):=hidOf <| by rw [HV0.out,if_neg hF0]
  have he:=specEncode_any 1 1 F 0
  generalize encI 1 1 F 0=X at HV he
  clear hF0 HV0
  go_enter Tryz.func35,Tryz.ntmps35
  go_wp2_with (first | (go_at_call 32; refine hfr.mono ?_; rintro e w1 ⟨rfl,hw1⟩; subst hw1) | (go_at_call 61; refine (he _).mono ?_; rintro e w2 ⟨rfl,hb2⟩))
  go_ret
  refine ⟨by rw [HV.out]; rfl,?_⟩
  exact ((Below.refl _ _).alloc (Nat.le_refl _) _).trans (hb2.mono (by simp))
set_option maxHeartbeats 1000000 in
theorem l5Right_2 (g c b:Nat) (Hs:List Ht) (a:Option Addr) (cp bp:Nat) (ps:List P3) (p:Nat) (w:World) (hl:Hs.length=4096) (hp:p < 4096) (h:ERow eHit w b (.slice (some ⟨g,0,none⟩) Hs.length c) Hs) (hle:ps.length<=4000) (hr:PRow w bp (.slice a ps.length cp) ps) :
  Calls Tryz.prog 35 #[.slice (some ⟨g,0,none⟩) 4096 c,.slice a ps.length cp,.int .i64 2,.int .i64 p] w fun e w'=>e=.returned (.int .u64 (rgt (hF Hs) ps 2 p))/\Below w.heap.size w w':=by
 obtain ⟨hgl,c0,c1,c2,c3⟩:=eHit_cells h p (by omega)
 obtain ⟨E,hE⟩:∃ E,hF Hs p=E:=⟨_,rfl⟩
 have hE':eAt eHit Hs p=E:=hE
 rw [hE'] at c0 c1 c2 c3
 obtain ⟨A,B,C,D⟩:=E
 dsimp only at c0 c1 c2 c3
 have hT:((p:Nat):Int).toNat=p:=rfl
 have L1:(0:Int)<=(p:Int):=by omega
 have L2:(p:Int) < 4096:=by omega
 have HFR:Hid (∀ wX,Below w.heap.size w wX->Calls Tryz.prog 32 #[.slice a ps.length cp,.int .i64 3,.int .i64 p] wX fun e w'=>e=.returned (.int .i64 (frOf ps 3 p))/\w'=wX):=fun wX hX=>l5Frame_any a cp bp ps 3 p wX hle (hr.below hX)
 by_cases hD:D=16
 ·subst hD
  have HV:Hid (rgt (hF Hs) ps 2 p=encI 2 2 B C):=hidOf <| by unfold rgt; rw [if_neg (by decide),hT,hE,if_pos ⟨rfl,rfl⟩]
  have he:=specEncode_any 2 2 B C
  generalize encI 2 2 B C=X at HV he
  clear hE hE' h hr HFR hT
  go_enter Tryz.func35,Tryz.ntmps35
  go_wp2_with (go_at_call 61; refine (he _).mono ?_; rintro e w1 ⟨rfl,hb1⟩)
  go_ret
  refine ⟨by rw [HV.out]; rfl,?_⟩
  exact ((Below.refl _ _).alloc (Nat.le_refl _) _).trans (hb1.mono (by simp))
 ·have dD:(D == 16)=false:=by simpa using hD
  have HV0:Hid (rgt (hF Hs) ps 2 p=if frOf ps 3 p < 0 then 0 else encI 2 1 (frOf ps 3 p) 0):=hidOf <| by unfold rgt; rw [if_neg (by decide),hT,hE,if_neg (fun h=>hD h.2)]; rfl
  clear hD
  generalize frOf ps 3 p=F at HV0 HFR
  clear hE hE' h hr hT
  have hfr:=HFR.out (w.alloc (.cells #[.int .i64 A,.int .i64 B,.int .i64 C,.int .i64 D] 110)) ((Below.refl _ _).alloc (Nat.le_refl _) _)
  by_cases hF0:F < 0
  ·have dF:decide (F < 0)=true:=decide_eq_true hF0
   have HV:Hid (rgt (hF Hs) ps 2 p=0):=hidOf <| by rw [HV0.out,if_pos hF0]
   clear hF0 HV0
   go_enter Tryz.func35,Tryz.ntmps35
   go_wp2_with (go_at_call 32; refine hfr.mono ?_; rintro e w1 ⟨rfl,hw1⟩; subst hw1)
   go_ret
   refine ⟨by rw [HV.out]; rfl,?_⟩
   exact (Below.refl _ _).alloc (Nat.le_refl _) _
  ·have dF:decide (F < 0)=false:=decide_eq_false hF0
   have HV:Hid (rgt (hF Hs) ps 2 p=encI 2 1 F 0):=hidOf <| by rw [HV0.out,if_neg hF0]
   have he:=specEncode_any 2 1 F 0
   generalize encI 2 1 F 0=X at HV he
   clear hF0 HV0
   go_enter Tryz.func35,Tryz.ntmps35
   go_wp2_with (first | (go_at_call 32; refine hfr.mono ?_; rintro e w1 ⟨rfl,hw1⟩; subst hw1) | (go_at_call 61; refine (he _).mono ?_; rintro e w2 ⟨rfl,hb2⟩))
   go_ret
   refine ⟨by rw [HV.out]; rfl,?_⟩
   exact ((Below.refl _ _).alloc (Nat.le_refl _) _).trans (hb2.mono (by simp))
set_option maxHeartbeats 1000000 in
theorem l5Right_3 (g c b:Nat) (Hs:List Ht) (a:Option Addr) (cp bp:Nat) (ps:List P3) (p:Nat) (w:World) (hl:Hs.length=4096) (hp:p < 4096) (h:ERow eHit w b (.slice (some ⟨g,0,none⟩) Hs.length c) Hs) (hle:ps.length<=4000) (hr:PRow w bp (.slice a ps.length cp) ps) :
  Calls Tryz.prog 35 #[.slice (some ⟨g,0,none⟩) 4096 c,.slice a ps.length cp,.int .i64 3,.int .i64 p] w fun e w'=>e=.returned (.int .u64 (rgt (hF Hs) ps 3 p))/\Below w.heap.size w w':=by
 obtain ⟨hgl,c0,c1,c2,c3⟩:=eHit_cells h p (by omega)
 obtain ⟨E,hE⟩:∃ E,hF Hs p=E:=⟨_,rfl⟩
 have hE':eAt eHit Hs p=E:=hE
 rw [hE'] at c0 c1 c2 c3
 obtain ⟨A,B,C,D⟩:=E
 dsimp only at c0 c1 c2 c3
 have hT:((p:Nat):Int).toNat=p:=rfl
 have L1:(0:Int)<=(p:Int):=by omega
 have L2:(p:Int) < 4096:=by omega
 have HFR:Hid (∀ wX,Below w.heap.size w wX->Calls Tryz.prog 32 #[.slice a ps.length cp,.int .i64 4,.int .i64 p] wX fun e w'=>e=.returned (.int .i64 (frOf ps 4 p))/\w'=wX):=fun wX hX=>l5Frame_any a cp bp ps 4 p wX hle (hr.below hX)
 by_cases hA:A=1
 ·subst hA
  have HV:Hid (rgt (hF Hs) ps 3 p=encI 3 3 B C):=hidOf <| by unfold rgt; rw [if_pos rfl,hT,hE,if_pos rfl]
  have he:=specEncode_any 3 3 B C
  generalize encI 3 3 B C=X at HV he
  clear hE hE' h hr HFR hT
  go_enter Tryz.func35,Tryz.ntmps35
  go_wp2_with (go_at_call 61; refine (he _).mono ?_; rintro e w1 ⟨rfl,hb1⟩)
  go_ret
  refine ⟨by rw [HV.out]; rfl,?_⟩
  exact ((Below.refl _ _).alloc (Nat.le_refl _) _).trans (hb1.mono (by simp))
 ·have dA:(A != 1)=true:=by simpa using hA
  have HV:Hid (rgt (hF Hs) ps 3 p=0):=hidOf <| by unfold rgt; rw [if_pos rfl,hT,hE,if_neg hA]
  clear hE hE' h hr HFR hT hA
  go_enter Tryz.func35,Tryz.ntmps35
  go_wp2_with fail
  go_ret
  refine ⟨by rw [HV.out]; rfl,?_⟩
  exact (Below.refl _ _).alloc (Nat.le_refl _) _
theorem l5Right_any (g c b:Nat) (Hs:List Ht) (a:Option Addr) (cp bp:Nat) (ps:List P3) (lv p:Nat) (w:World) (hl:Hs.length=4096) (h1:1<=lv) (h3:lv<=3) (hp:p < 4096) (h:ERow eHit w b (.slice (some ⟨g,0,none⟩) Hs.length c) Hs) (hle:ps.length<=4000) (hr:PRow w bp (.slice a ps.length cp) ps) :
  Calls Tryz.prog 35 #[.slice (some ⟨g,0,none⟩) 4096 c,.slice a ps.length cp,.int .i64 lv,.int .i64 p] w fun e w'=>e=.returned (.int .u64 (rgt (hF Hs) ps lv p))/\Below w.heap.size w w':=by
 rcases (show lv=1\/lv=2\/lv=3 by omega) with rfl | rfl | rfl
 ·exact l5Right_1 g c b Hs a cp bp ps p w hl hp h hle hr
 ·exact l5Right_2 g c b Hs a cp bp ps p w hl hp h hle hr
 ·exact l5Right_3 g c b Hs a cp bp ps p w hl hp h hle hr
def eEn:Elt En:=⟨69,3,fun x=>[.int .i64 x.lv,.int .i64 x.pg,.int .i64 x.ad],⟨0,0,0⟩,by omega,fun _=>rfl⟩
theorem infoEn:(Tryz.prog.info? 69).map (fun i=>(i.zero,i.size,i.bytes))=some (some (.agg #[.int .i64 0,.int .i64 0,.int .i64 0]),3,24):=by kernel_rfl
structure LSt {α:Type} (E:Elt α) (w:World) (wr:World) (vv:Value) (l:List α):Prop where
 row:∃ g c:Nat,vv=.slice (some ⟨g,0,none⟩) l.length c/\ERow E wr w.heap.size (.slice (some ⟨g,0,none⟩) l.length c) l
 bel:Below w.heap.size w wr
theorem LSt.below {α:Type} {E:Elt α} {w wr w1:World} {vv:Value} {l:List α} (h:LSt E w wr vv l) (hb:Below wr.heap.size wr w1):LSt E w w1 vv l:=by
 obtain ⟨⟨g,c,e,hr⟩,hbel⟩:=h
 exact ⟨⟨g,c,e,hr.below hb⟩,hbel.trans (hb.mono hbel.size)⟩
theorem LSt.push {α:Type} {E:Elt α} {w w1 wn:World} {g c g1 c1:Nat} {l:List α} {x:α} {o:Obj} (hbel:Below w.heap.size w w1) (hr:ERow E w1 w.heap.size (.slice (some ⟨g,0,none⟩) l.length c) l) (hown:wn.ownsRow w.heap.size E.T E.sz (.slice (some ⟨g1,0,none⟩) (l.length+1) c1) (l.length+1) (ecells E l ++ E.enc x)) (hgrow:(w1.alloc o).grownBy wn (Value.ownBlock (.slice (some ⟨g,0,none⟩) l.length c))) :
  LSt E w wn (.slice (some ⟨g1,0,none⟩) (l.length+1) c1) (l ++ [x]):=by
 refine ⟨⟨g1,c1,by simp,?_⟩,?_⟩
 ·have:=ERow.push rfl hown
  rw [List.length_append,List.length_singleton]
  exact this
 ·exact (hbel.alloc hbel.size _).grown hgrow (by have:=hbel.size; simp; omega) (fun q hq=>(hr.own q hq).1)
def eUp (kept:List P3) (page:Nat):Nat->List En
 | 0=>[]
 | n+1=>eUp kept page n ++ eOne kept page (n+1)
theorem eUp_len (kept:List P3) (page:Nat):∀ n,(eUp kept page n).length<=n
 | 0=>by simp [eUp]
 | n+1=>by
  have:=eUp_len kept page n
  have:=eOne_len kept page (n+1)
  unfold eUp
  rw [List.length_append]
  omega
theorem eUp_3 (kept:List P3) (page:Nat):eUp kept page 3=eAll kept page:=by
 unfold eAll
 simp [eUp]
set_option maxHeartbeats 4000000 in
theorem l5Entries_any (a:Option Addr) (cp bp:Nat) (ps:List P3) (w:World) (hfb:∀ lv pg,frOf ps lv pg < 512) (hle:ps.length<=4000) (hr:PRow w bp (.slice a ps.length cp) ps) :
  Calls Tryz.prog 34 #[.slice a ps.length cp] w fun e w'=>∃ g c,e=.returned (.slice (some ⟨g,0,none⟩) (enTo ps 4096).length c)/\ERow eEn w' w.heap.size (.slice (some ⟨g,0,none⟩) (enTo ps 4096).length c) (enTo ps 4096)/\Below w.heap.size w w':=by
 obtain ⟨i0,hi,hz0,hz1,hz2⟩:=info_parts infoEn
 have HFR:Hid (∀ lv pg wX,Below w.heap.size w wX->Calls Tryz.prog 32 #[.slice a ps.length cp,.int .i64 lv,.int .i64 pg] wX fun e w'=>e=.returned (.int .i64 (frOf ps lv pg))/\w'=wX):=fun lv pg wX hX=>l5Frame_any a cp bp ps lv pg wX hle (hr.below hX)
 have HFB:Hid (∀ lv pg,frOf ps lv pg < 512):=hfb
 have HE:Hid (LSt eEn w (w.alloc (.cells #[] 69)) (.slice (some ⟨w.heap.size,0,none⟩) 0 0) (enTo ps 0)):=⟨⟨w.heap.size,0,rfl,ERow.empty eEn w w.heap.size (Nat.le_refl _)⟩,bal⟩
 clear hr hfb
 go_enter Tryz.func34,Tryz.ntmps34
 go_wp2_with fail
 go_loopw [3,4] (fun vv iv wr=>∃ t:Nat,t<=4096/\iv=.int .i64 t/\LSt eEn w wr vv (enTo ps t)) (fun _ iv _=>4096 - (intOf iv).toNat)
 case atStart=>exact ⟨0,Nat.zero_le _,rfl,HE.out⟩
 case round =>
  obtain ⟨t,ht,rfl,hst⟩:=hrel
  by_cases hlt:t < 4096
  ·have hel:=enTo_len ps t
   have HSU:Hid (enTo ps (t+1)=enTo ps t ++ eUp ps t 3):=hidOf <| by rw [enTo_succ,eUp_3]
   obtain ⟨l,hl⟩:∃ l,enTo ps t=l:=⟨_,rfl⟩
   rw [hl] at hst hel HSU
   have HST:Hid (LSt eEn w wr _ l):=hst
   have LT:(0:Int)<=(t:Int):=by omega
   have LT2:(t:Int) < 4096:=by omega
   clear hl hst
   go_wp2_with fail
   go_loopw [3,5] (fun vv iv wr=>∃ n:Nat,n<=3/\iv=.int .i64 ((n:Int)+1)/\LSt eEn w wr vv (l ++ eUp ps t n)) (fun _ iv _=>4 - (intOf iv).toNat)
   case atStart=>exact ⟨0,Nat.zero_le _,rfl,by simpa [eUp] using HST.out⟩
   case round =>
    obtain ⟨n,hn,rfl,hst⟩:=hrel
    have hll:(l ++ eUp ps t n).length<=12300:=by rw [List.length_append]; have:=eUp_len ps t n; omega
    by_cases hlt3:n < 3
    ·have hcv:=covers_any ((n:Int)+1)
     have hce:cov ((n:Int)+1)=(epg (n+1):Nat):=by have:=cov_epg (n+1); simpa using this
     have hcp:=epg_pos (n+1)
     have hcm:epg (n+1)<=256:=by unfold epg; split <;> (try split) <;> omega
     rw [hce] at hcv
     have HUP:Hid (eUp ps t (n+1)=eUp ps t n ++ (if t % epg (n+1)=0/\0<=frOf ps ((n:Int)+1) ((t - t % (epg (n+1) * 16):Nat):Int) then [⟨(n:Int)+1,t,frOf ps ((n:Int)+1) ((t - t % (epg (n+1) * 16):Nat):Int) * 16+(t / epg (n+1) % 16:Nat)⟩] else [])):=hidOf <| by
      show eUp ps t n ++ eOne ps t (n+1)=_
      unfold eOne
      rw [show ((n+1:Nat):Int)=(n:Int)+1 by omega]
     have hpg:((t - t % (epg (n+1) * 16):Nat):Int)=(t:Int) - (t:Int) % ((epg (n+1):Nat) * 16:Int):=by
      have h1:t % (epg (n+1) * 16)<=t:=Nat.mod_le _ _
      rw [Int.ofNat_sub h1]
      simp
     rw [hpg] at HUP
     generalize epg (n+1)=C at hcv hcp hcm HUP hpg
     have LC:(1:Int)<=(C:Int):=by omega
     have LC2:(C:Int)<=256:=by omega
     have dC:((C:Int) == 0)=false:=by simp; omega
     have dC2:((C:Int) * 16 == 0)=false:=by simp; omega
     have Lm1:(0:Int)<=(t:Int) % ((C:Int) * 16):=Int.emod_nonneg _ (by omega)
     have Lm2:(t:Int) % ((C:Int) * 16)<=(t:Int):=by
      have:(t:Int) % ((C:Int) * 16)=((t % (C * 16):Nat):Int):=by simp
      rw [this]
      exact Int.ofNat_le.2 (Nat.mod_le _ _)
     have Ln:(0:Int)<=(n:Int)+1:=by omega
     have Ln3:(n:Int)+1<=3:=by omega
     have Ln4:(n:Int) < 3:=by omega
     have Ln5:(n:Int)<=2:=by omega
     have dn:decide ((n:Int)+1<=3)=true:=decide_eq_true Ln3
     have hC0:¬ (C:Int)=0:=by omega
     have hC1:¬ (C:Int) * 16=0:=by omega
     have hC2:¬ C=0:=by omega
     have WC:IntKind.i64.wrap ((C:Int) * 16)=(C:Int) * 16:=by rw [IntKind.wrap_i64]; omega
     have WD:IntKind.i64.wrap ((t:Int) - (t:Int) % ((C:Int) * 16))=(t:Int) - (t:Int) % ((C:Int) * 16):=by rw [IntKind.wrap_i64]; omega
     clear hce hpg
     by_cases hm:t % C=0
     ·have dm:((t:Int) % (C:Int) == 0)=true:=by
       have:(t:Int) % (C:Int)=((t % C:Nat):Int):=by simp
       rw [this,hm]; rfl
      have hfr:=fun wX hX=>HFR.out ((n:Int)+1) ((t:Int) - (t:Int) % ((C:Int) * 16)) wX hX
      have hfl:=HFB.out ((n:Int)+1) ((t:Int) - (t:Int) % ((C:Int) * 16))
      rw [show ((C:Nat) * 16:Int)=(C:Int) * 16 from rfl] at HUP
      generalize frOf ps ((n:Int)+1) ((t:Int) - (t:Int) % ((C:Int) * 16))=F at hfr hfl HUP
      have hc1:=hfr wr hst.bel
      obtain ⟨l2,hl2⟩:∃ l2,l ++ eUp ps t n=l2:=⟨_,rfl⟩
      rw [hl2] at hst hll
      have HL2:Hid (l ++ eUp ps t n=l2):=hl2
      clear hl2
      obtain ⟨⟨gv,cv,rfl,hrow⟩,hbel⟩:=hst
      have hsz:=hbel.size
      by_cases hF0:0<=F
      ·have dF:decide (0<=F)=true:=decide_eq_true hF0
       have HU2:Hid (eUp ps t (n+1)=eUp ps t n ++ [⟨(n:Int)+1,t,F * 16+(t:Int) / (C:Int) % 16⟩]):=hidOf <| by
        rw [HUP.out,if_pos ⟨hm,hF0⟩]
        congr 3
       have HROW:Hid _:=hrow
       have HB:Hid (Below _ w wr):=hbel
       have Lq1:(0:Int)<=(t:Int) / (C:Int) % 16:=Int.emod_nonneg _ (by decide)
       have Lq2:(t:Int) / (C:Int) % 16 < 16:=Int.emod_lt_of_pos _ (by decide)
       have Lq3:(0:Int)<=(t:Int) / (C:Int):=Int.ediv_nonneg (by omega) (by omega)
       have Lq4:(t:Int) / (C:Int)<=4096:=Int.le_trans (Int.ediv_le_self _ (by omega)) (by omega)
       clear hm hrow hbel hfr
       go_wp2_with (first | (go_at_call 37; refine (hcv _).mono ?_; rintro e wE ⟨rfl,hwE⟩; obtain rfl:=hwE.symm) | (go_at_call 32; refine hc1.mono ?_; rintro e wE ⟨rfl,hwE⟩; obtain rfl:=hwE.symm) | (at_builtin; refine wpList_append_lies _ rfl (.tmp 34) (.tmp 45) 65 rfl w.heap.size 69 i0 _ 3 24 Tryz.underlying65 hi hz0 hz1 hz2 rfl (by omega) _ _ _ rfl (World.ownsRow.alloc HROW.out _) ⟨wr.heap.size,0,none⟩ 1 1 [.int .i64 ((n:Int)+1),.int .i64 t,.int .i64 (F * 16+(t:Int) / (C:Int) % 16)] rfl rfl ?c1 ?c2 (by omega) ?c3 ?c4 ?c5 (wr.heap.size+1) ?c6 ?_))
       case c1=>exact World.news_of_block (heap_alloc_new wr (.cells #[.int .i64 ((n:Int)+1),.int .i64 t,.int .i64 (F * 16+(t:Int) / (C:Int) % 16)] 69))
       case c2=>intro u hu; simp at hu; rcases hu with rfl | rfl | rfl <;> rfl
       case c3=>unfold maxLen; omega
       case c4=>omega
       case c5=>simp; omega
       case c6=>simp
       intro g1 cap1 wn hown hgrow hat hltz
       have hstn:LSt eEn w wn (.slice (some ⟨g1,0,none⟩) (l2.length+1) cap1) (l2 ++ [⟨(n:Int)+1,t,F * 16+(t:Int) / (C:Int) % 16⟩]):=LSt.push HB.out HROW.out hown hgrow
       clear hown hgrow hat hltz
       go_wp2_with fail
       go_roundw
       case rel=>exact ⟨n+1,by omega,by go_num,by rw [HU2.out,<- List.append_assoc,HL2.out]; exact hstn⟩
       case measure=>simp [intOf]; omega
      ·have dF:decide (0<=F)=false:=decide_eq_false hF0
       have HU2:Hid (eUp ps t (n+1)=eUp ps t n):=hidOf <| by
        rw [HUP.out,if_neg (fun h=>hF0 h.2),List.append_nil]
       have hst:LSt eEn w wr (.slice (some ⟨gv,0,none⟩) l2.length cv) l2:=⟨⟨gv,cv,rfl,hrow⟩,hbel⟩
       clear hm hrow hbel hfr
       go_wp2_with (first | (go_at_call 37; refine (hcv _).mono ?_; rintro e wE ⟨rfl,hwE⟩; obtain rfl:=hwE.symm) | (go_at_call 32; refine hc1.mono ?_; rintro e wE ⟨rfl,hwE⟩; obtain rfl:=hwE.symm))
       go_roundw
       case rel=>exact ⟨n+1,by omega,by go_num,by rw [HU2.out,HL2.out]; exact hst⟩
       case measure=>simp [intOf]; omega
     ·have dm:((t:Int) % (C:Int) == 0)=false:=by
       have:(t:Int) % (C:Int)=((t % C:Nat):Int):=by simp
       rw [this]
       simpa using (show ¬ ((t % C:Nat):Int)=0 by omega)
      have HU2:Hid (eUp ps t (n+1)=eUp ps t n):=hidOf <| by
       rw [HUP.out,if_neg (fun h=>hm h.1),List.append_nil]
      clear hm
      go_wp2_with (go_at_call 37; refine (hcv _).mono ?_; rintro e wE ⟨rfl,hwE⟩; obtain rfl:=hwE.symm)
      go_roundw
      case rel=>exact ⟨n+1,by omega,by go_num,by rw [HU2.out]; exact hst⟩
      case measure=>simp [intOf]; omega
    ·have e:n=3:=by omega
     subst e
     have dn:decide (((3:Nat):Int)+1<=3)=false:=by decide
     go_wp2_with fail
     go_roundw
     case rel=>exact ⟨t+1,by omega,by go_num,by rw [HSU.out]; exact hst⟩
     case measure=>simp [intOf]; omega
  ·have e:t=4096:=by omega
   subst e
   obtain ⟨⟨gv,cv,rfl,hrow⟩,hbel⟩:=hst
   go_wp2_with fail
   go_ret
   exact ⟨gv,cv,rfl,hrow,hbel⟩
end Go.Proofs.YtnmhkgmmpkjjeacGreat
