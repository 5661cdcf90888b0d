import Derived.Test.YtnmhkgmmpkjjeacGreatG16
import Derived.Test.YtnmhkgmmpkjjeacGreatG15
namespace Go.Proofs.YtnmhkgmmpkjjeacGreat
open Go.ChangeShapes Go.WideShapes Go.ChangeAt Go.RowKit
set_option linter.unusedVariables false
set_option maxRecDepth 100000
attribute [local go_sem ↓] Go.wp_at_zero Go.wp_at_succ
attribute [local go_sem] bs_size bs_cAt bs_app bs_mk bs_cut bs_list
def eSt:Elt St:=⟨143,6,fun s=>[.int .i64 s.kind,.string (bs s.name),.int .i64 s.a,.int .i64 s.b,.int .i64 s.perm,.bool s.extra],noSt,by omega,fun _=>rfl⟩
theorem infoSt:(Tryz.prog.info? 143).map (fun i=>(i.zero,i.size,i.bytes))=some (some (.agg #[.int .i64 0,.string (bs []),.int .i64 0,.int .i64 0,.int .i64 0,.bool false]),6,56):=by kernel_rfl
structure StC (w:World) (g i:Nat) (s:St):Prop where
 lt:g < w.heap.size
 k:w.cell? ⟨g,i * 6,none⟩=some (.int .i64 s.kind)
 n:w.cell? ⟨g,i * 6+1,none⟩=some (.string (bs s.name))
 a:w.cell? ⟨g,i * 6+2,none⟩=some (.int .i64 s.a)
 b:w.cell? ⟨g,i * 6+3,none⟩=some (.int .i64 s.b)
 p:w.cell? ⟨g,i * 6+4,none⟩=some (.int .i64 s.perm)
 e:w.cell? ⟨g,i * 6+5,none⟩=some (.bool s.extra)
theorem eSt_cells {w:World} {b c:Nat} {a:Option Addr} {xs:List St} (h:ERow eSt w b (.slice a xs.length c) xs) (h0:0 < xs.length):∃ g,a=some ⟨g,0,none⟩/\∀ i,i < xs.length->StC w g i (stAt xs i):=by
 obtain ⟨a',c',e,h1⟩:=h.form
 obtain ⟨g',N,f,e2,_,hr,hN,hf⟩:=h1 h0
 have hN':xs.length * 6<=N:=hN
 simp only [Value.slice.injEq] at e
 obtain ⟨e,_,_⟩:=e
 rw [e2] at e
 refine ⟨g',e,fun i hi=>⟨hr.lt,?_,?_,?_,?_,?_,?_⟩⟩
 ·rw [hr.cell (i:=i * 6) (by omega)]; exact congrArg some (hf i hi 0 (by decide))
 ·rw [hr.cell (i:=i * 6+1) (by omega)]; exact congrArg some (hf i hi 1 (by decide))
 ·rw [hr.cell (i:=i * 6+2) (by omega)]; exact congrArg some (hf i hi 2 (by decide))
 ·rw [hr.cell (i:=i * 6+3) (by omega)]; exact congrArg some (hf i hi 3 (by decide))
 ·rw [hr.cell (i:=i * 6+4) (by omega)]; exact congrArg some (hf i hi 4 (by decide))
 ·rw [hr.cell (i:=i * 6+5) (by omega)]; exact congrArg some (hf i hi 5 (by decide))
theorem StC.below {w w':World} {g i:Nat} {s:St} (h:StC w g i s) (hb:Below w.heap.size w w'):StC w' g i s :=
 ⟨Nat.lt_of_lt_of_le h.lt hb.size,(hb.cell (p:=⟨g,_,none⟩) h.lt).trans h.k,(hb.cell (p:=⟨g,_,none⟩) h.lt).trans h.n,(hb.cell (p:=⟨g,_,none⟩) h.lt).trans h.a,(hb.cell (p:=⟨g,_,none⟩) h.lt).trans h.b,(hb.cell (p:=⟨g,_,none⟩) h.lt).trans h.p,(hb.cell (p:=⟨g,_,none⟩) h.lt).trans h.e⟩
def StR (w:World) (a:Option Addr) (xs:List St):Prop:=0 < xs.length->∃ g,a=some ⟨g,0,none⟩/\∀ i,i < xs.length->StC w g i (stAt xs i)
theorem StR.below {w w':World} {a:Option Addr} {xs:List St} (h:StR w a xs) (hb:Below w.heap.size w w'):StR w' a xs:=fun h0=>by
 obtain ⟨g,e,hc⟩:=h h0
 exact ⟨g,e,fun i hi=>(hc i hi).below hb⟩
set_option maxHeartbeats 1000000 in
theorem l4Object_any (a:Option Addr) (c:Nat) (all:List St) (n:Txt) (w:World) (hle:all.length<=1000) (hr:StR w a all) :
  Calls Tryz.prog 114 #[.slice a all.length c,.string (bs n)] w fun e w'=>e=.returned (stV (objOf all n))/\Below w.heap.size w w':=by
 have HR:Hid (∀ wX,Below w.heap.size w wX->StR wX a all):=hidP fun wX hX=>hr.below hX
 clear hr
 go_enter Tryz.func114,Tryz.ntmps114
 go_wp2_with fail
 go_loopw [5] (fun iv wr=>∃ (k:Nat),k<=all.length/\iv=.int .i64 k/\Hid (∀ j,j < k->isObj n (stAt all j)=false)/\wr=w.alloc (.cells #[.int .i64 0,.string (bs []),.int .i64 0,.int .i64 0,.int .i64 0,.bool false] 143)) (fun iv _=>all.length - (intOf iv).toNat)
 case atStart=>exact ⟨0,Nat.zero_le _,rfl,hidP fun j hj=>absurd hj (by omega),rfl⟩
 case round =>
  obtain ⟨k,hk,rfl,HO,rfl⟩:=hrel
  by_cases hlt:k < all.length
  ·have L1:(0:Int)<=(k:Int):=by omega
   have L2:(k:Int) < (all.length:Int):=by omega
   obtain ⟨g,rfl,hc⟩:=HR.out _ (Below.refl _ _) (by omega)
   obtain ⟨hg,c0,c1,c2,c3,c4,c5⟩:=hc k hlt
   have HS:Hid (isObj n (stAt all k)=true->objOf all n=stAt all k):=hidP fun h=>objOf_hit hlt HO.out h
   have HN:Hid (isObj n (stAt all k)=false->∀ j,j < k+1->isObj n (stAt all j)=false):=hidP fun h j hj=>by
    by_cases e:j=k
    ·rw [e]; exact h
    ·exact HO.out j (by omega)
   obtain ⟨s,hs⟩:∃ s,stAt all k=s:=⟨_,rfl⟩
   rw [hs] at c0 c1 c2 c3 c4 c5 HS HN
   obtain ⟨K,M,A,B,P,X⟩:=s
   dsimp only at c0 c1 c2 c3 c4 c5
   clear hs hc
   cases hK:K == 1
   ·have HF:Hid _:=HN.out (by unfold isObj; rw [hK]; rfl)
    go_wp2_with fail
    go_roundw
    case rel=>exact ⟨k+1,by omega,by go_num,HF,by first | rfl | trivial⟩
    case measure=>first | (simp [intOf]; done) | (simp [intOf]; omega)
   ·cases hM:M == n
    ·have HF:Hid _:=HN.out (by unfold isObj; rw [hK,hM]; rfl)
     go_wp2_with fail
     go_roundw
     case rel=>exact ⟨k+1,by omega,by go_num,HF,by first | rfl | trivial⟩
     case measure=>first | (simp [intOf]; done) | (simp [intOf]; omega)
    ·have HF:Hid _:=HS.out (by unfold isObj; rw [hK,hM]; rfl)
     go_wp2_with fail
     refine bodyPost_ret (v:=stV ⟨K,M,A,B,P,X⟩) (by simp [results,Tryz.results114,go_sem,stV]) rfl ⟨by rw [HF.out],?_⟩
     repeat (first | exact Below.refl _ _ | with_reducible refine Below.drew ?_ | with_reducible refine Below.setCell ?_ (by first | omega | (simp <;> omega)) _ | with_reducible refine Below.alloc ?_ (by first | omega | (simp <;> omega)) _)
  ·have HF:Hid (objOf all n=noSt):=hidP (objOf_none fun j hj=>HO.out j (by omega))
   go_wp2_with fail
   refine bodyPost_ret (v:=stV noSt) (by simp [results,Tryz.results114,go_sem,stV,noSt]) rfl ⟨by rw [HF.out],?_⟩
   repeat (first | exact Below.refl _ _ | with_reducible refine Below.drew ?_ | with_reducible refine Below.setCell ?_ (by first | omega | (simp <;> omega)) _ | with_reducible refine Below.alloc ?_ (by first | omega | (simp <;> omega)) _)
theorem run_field_a (k a b p:Int) (m:ByteArray) (x:Bool) (w:World):(Instr.field 143 (.agg #[.int .i64 k,.string m,.int .i64 a,.int .i64 b,.int .i64 p,.bool x]) 2).run Tryz.prog w=.ok (.int .i64 a) w:=by rfl
theorem l4Size_any (a:Option Addr) (c:Nat) (all:List St) (s:St) (w:World) (hle:all.length<=1000) (hr:StR w a all) :
  Calls Tryz.prog 116 #[.slice a all.length c,stV s] w fun e w'=>e=.returned (.int .i64 (szOf all s))/\Below w.heap.size w w':=by
 obtain ⟨K,M,A,B,P,X⟩:=s
 unfold stV
 dsimp only
 obtain ⟨R,hR⟩:∃ R,objOf all M=R:=⟨_,rfl⟩
 obtain ⟨k2,m2,a2,b2,p2,x2⟩:=R
 have HO:Hid (∀ wX,Below w.heap.size w wX->Calls Tryz.prog 114 #[.slice a all.length c,.string (bs M)] wX fun e w'=>e=.returned (.agg #[.int .i64 k2,.string (bs m2),.int .i64 a2,.int .i64 b2,.int .i64 p2,.bool x2])/\Below wX.heap.size wX w'):=hidP fun wX hX=>by
  have:=l4Object_any a c all M wX hle (hr.below hX)
  rw [hR] at this
  exact this
 clear hr
 have HRR:Hid _:=hR
 cases hK:K == 3
 ·have HF:Hid (szOf all ⟨K,M,A,B,P,X⟩=a2):=hidP <| by unfold szOf; rw [if_neg (by rw [hK]; decide),hR]
  have hfl:=run_field_a
  go_enter Tryz.func116,Tryz.ntmps116
  go_wp2_with (go_at_call 114; refine (HO.out _ (bal)).mono ?_; rintro e w1 ⟨rfl,hb1⟩)
  go_ret
  refine ⟨by rw [HF.out]; rfl,?_⟩
  exact bal.trans (hb1.mono (by simp))
 ·have HF:Hid (szOf all ⟨K,M,A,B,P,X⟩=B):=hidP <| by unfold szOf; rw [if_pos hK]
  go_enter Tryz.func116,Tryz.ntmps116
  go_wp2_with fail
  go_ret
  refine ⟨by rw [HF.out]; rfl,?_⟩
  repeat (first | exact Below.refl _ _ | with_reducible refine Below.drew ?_ | with_reducible refine Below.setCell ?_ (by first | omega | (simp <;> omega)) _ | with_reducible refine Below.alloc ?_ (by first | omega | (simp <;> omega)) _)
theorem l3Meet_any (p a q b:Int) (h0:0<=p/\p < 1000000) (h1:0<=a/\a < 1000000) (h2:0<=q/\q < 1000000) (h3:0<=b/\b < 1000000) (w:World) :
  Calls Tryz.prog 115 #[.int .i64 p,.int .i64 a,.int .i64 q,.int .i64 b] w fun e w'=>e=.returned (.bool (meetB p a q b))/\w'=w:=by
 unfold meetB
 by_cases c:p < q+b
 ·have c':decide (p < q+b)=true:=decide_eq_true c
  by_cases d:q < p+a
  ·have d':decide (q < p+a)=true:=decide_eq_true d
   rw [c',d']
   go_enter Tryz.func115,Tryz.ntmps115
   go_wp2_with fail
   go_ret
   exact ⟨rfl,rfl⟩
  ·have d':decide (q < p+a)=false:=decide_eq_false d
   rw [c',d']
   go_enter Tryz.func115,Tryz.ntmps115
   go_wp2_with fail
   go_ret
   exact ⟨rfl,rfl⟩
 ·have c':decide (p < q+b)=false:=decide_eq_false c
  rw [c']
  go_enter Tryz.func115,Tryz.ntmps115
  go_wp2_with fail
  go_ret
  exact ⟨by first | rfl | simp,rfl⟩
theorem code_0 (a:Option Addr) (c:Nat) (all:List St) (M:Txt) (A B P:Int) (X:Bool) (w:World) :
  Calls Tryz.prog 81 #[.slice a all.length c,stV ⟨0,M,A,B,P,X⟩] w fun e w'=>e=.returned (.int .i64 4)/\Below w.heap.size w w':=by
 unfold stV
 dsimp only
 go_enter Tryz.func81,Tryz.ntmps81
 go_wp2_with fail
 go_ret
 refine ⟨rfl,?_⟩
 repeat (first | exact Below.refl _ _ | with_reducible refine Below.drew ?_ | with_reducible refine Below.setCell ?_ (by first | omega | (simp <;> omega)) _ | with_reducible refine Below.alloc ?_ (by first | omega | (simp <;> omega)) _)
set_option maxHeartbeats 4000000 in
theorem code_1 (a:Option Addr) (c:Nat) (all:List St) (M:Txt) (A B P:Int) (X:Bool) (w:World) (hle:all.length<=1000) (hr:StR w a all) (hall:∀ t ∈ all,StOk t) (ha:0<=A/\A < 1000000) (hb:0<=B/\B < 1000000) :
  Calls Tryz.prog 81 #[.slice a all.length c,stV ⟨1,M,A,B,P,X⟩] w fun e w'=>e=.returned (.int .i64 (codeL all ⟨1,M,A,B,P,X⟩))/\Below w.heap.size w w':=by
 obtain ⟨R,hR⟩:∃ R,objOf all M=R:=⟨_,rfl⟩
 obtain ⟨k2,m2,a2,b2,p2,x2⟩:=R
 have HO:Hid (∀ wX,Below w.heap.size w wX->Calls Tryz.prog 114 #[.slice a all.length c,.string (bs M)] wX fun e w'=>e=.returned (.agg #[.int .i64 k2,.string (bs m2),.int .i64 a2,.int .i64 b2,.int .i64 p2,.bool x2])/\Below wX.heap.size wX w'):=hidP fun wX hX=>by
  have:=l4Object_any a c all M wX hle (hr.below hX)
  rw [hR] at this
  exact this
 have HC:Hid (∀ wX,Below (w.alloc (.cells #[.int .i64 1,.string (bs M),.int .i64 A,.int .i64 B,.int .i64 P,.bool X] 143)).heap.size (w.alloc (.cells #[.int .i64 1,.string (bs M),.int .i64 A,.int .i64 B,.int .i64 P,.bool X] 143)) wX->StR wX a all/\wX.cell? ⟨w.heap.size,2,none⟩=some (.int .i64 A)/\wX.cell? ⟨w.heap.size,3,none⟩=some (.int .i64 B)/\wX.cell? ⟨w.heap.size,0,none⟩=some (.int .i64 1)/\wX.cell? ⟨w.heap.size,1,none⟩=some (.string (bs M))):=hidP fun wX hX=>by
  refine ⟨(hr.below bal).below hX,?_,?_,?_,?_⟩ <;> (rw [hX.cell (by simp)]; simp)
 have HOK:Hid _:=hall
 have HBW:Hid (Below w.heap.size w (w.alloc (.cells #[.int .i64 1,.string (bs M),.int .i64 A,.int .i64 B,.int .i64 P,.bool X] 143))):=bal
 have HAB:Hid ((0<=A/\A < 1000000)/\(0<=B/\B < 1000000)):=⟨ha,hb⟩
 have HX1:Hid (codeL all ⟨1,M,A,B,P,X⟩=if k2 == 1 then 5 else if A == 0 || decide (65536 < B+A) then 7 else if all.any (hitObj ⟨1,M,A,B,P,X⟩) then 8 else 0):=hidP <| by
  show (if (1:Int) == 0 then (4:Int) else if (1:Int) == 1 then _ else _)=_; rw [if_neg (by decide),if_pos (by decide)]; dsimp only; rw [hR]
 have HSZ:(w.alloc (.cells #[.int .i64 1,.string (bs M),.int .i64 A,.int .i64 B,.int .i64 P,.bool X] 143)).heap.size=w.heap.size+1:=by simp
 have HSZ2:Hid _:=HSZ
 clear hr hall hR HSZ
 unfold stV
 dsimp only
 cases h1:k2 == 1
 ·by_cases hA:A=0
  ·have HV:Hid (codeL all ⟨1,M,A,B,P,X⟩=7):=hidP <| by rw [HX1.out,h1,if_neg (by decide),if_pos (by simp [hA])]
   have e0:(A == 0)=true:=by simp [hA]
   clear hA
   go_enter Tryz.func81,Tryz.ntmps81
   go_wp2_with fail
   refine (HO.out _ bal).mono ?_
   rintro e w1 ⟨rfl,hb1⟩
   obtain ⟨-,q2,q3,q0,q5⟩:=HC.out w1 hb1
   have hz1:w.heap.size < w1.heap.size:=by have:=hb1.size; rw [HSZ2.out] at this; omega
   go_wp2_with fail
   go_ret
   refine ⟨by rw [HV.out]; rfl,?_⟩
   exact HBW.out.trans ((hb1.alloc hb1.size _).mono (by simp))
  ·have e0:(A == 0)=false:=by simp [hA]
   by_cases hL:65536 < B+A
   ·have HV:Hid (codeL all ⟨1,M,A,B,P,X⟩=7):=hidP <| by rw [HX1.out,h1,if_neg (by decide),if_pos (by simp [hL])]
    clear hA
    go_enter Tryz.func81,Tryz.ntmps81
    go_wp2_with fail
    refine (HO.out _ bal).mono ?_
    rintro e w1 ⟨rfl,hb1⟩
    obtain ⟨-,q2,q3,q0,q5⟩:=HC.out w1 hb1
    have hz1:w.heap.size < w1.heap.size:=by have:=hb1.size; rw [HSZ2.out] at this; omega
    go_wp2_with fail
    go_ret
    refine ⟨by rw [HV.out]; rfl,?_⟩
    exact HBW.out.trans ((hb1.alloc hb1.size _).mono (by simp))
   ·have hL':B+A<=65536:=by omega
    have HX2:Hid (codeL all ⟨1,M,A,B,P,X⟩=if all.any (hitObj ⟨1,M,A,B,P,X⟩) then 8 else 0):=hidP <| by rw [HX1.out,h1,if_neg (by decide),if_neg (by simp [hL,hA])]
    clear hA hL
    go_enter Tryz.func81,Tryz.ntmps81
    go_wp2_with fail
    refine (HO.out _ bal).mono ?_
    rintro e w1 ⟨rfl,hb1⟩
    obtain ⟨-,q2,q3,q0,q5⟩:=HC.out w1 hb1
    have hz1:w.heap.size < w1.heap.size:=by have:=hb1.size; rw [HSZ2.out] at this; omega
    go_wp2_with fail
    go_loopw [6] (fun iv wr=>∃ (k:Nat),k<=all.length/\iv=.int .i64 k/\Hid (∀ j,j < k->hitObj ⟨1,M,A,B,P,X⟩ (stAt all j)=false)/\Below (w.alloc (.cells #[.int .i64 1,.string (bs M),.int .i64 A,.int .i64 B,.int .i64 P,.bool X] 143)).heap.size (w.alloc (.cells #[.int .i64 1,.string (bs M),.int .i64 A,.int .i64 B,.int .i64 P,.bool X] 143)) wr) (fun iv _=>all.length - (intOf iv).toNat)
    case atStart=>exact ⟨0,Nat.zero_le _,rfl,hidP fun j hj=>absurd hj (by omega),hb1.alloc hb1.size _⟩
    case round =>
     obtain ⟨k,hk,rfl,HJ,hbel⟩:=hrel
     have HB:Hid _:=hbel
     have hsz:=hbel.size
     rw [HSZ2.out] at hsz
     clear hbel
     by_cases hlt:k < all.length
     ·obtain ⟨hR0,cA,cB,-,-⟩:=HC.out wr HB.out
      obtain ⟨g,rfl,hcc⟩:=hR0 (by omega)
      have HKK0:Hid (∀ wX,Below (w.alloc (.cells #[.int .i64 1,.string (bs M),.int .i64 A,.int .i64 B,.int .i64 P,.bool X] 143)).heap.size (w.alloc (.cells #[.int .i64 1,.string (bs M),.int .i64 A,.int .i64 B,.int .i64 P,.bool X] 143)) wX->StC wX g k (stAt all k)):=hidP fun wX hX=>by
       obtain ⟨hR1,_⟩:=HC.out wX hX
       obtain ⟨g',e,hcc'⟩:=hR1 (by omega)
       simp only [Option.some.injEq,Addr.mk.injEq,and_true] at e
       rw [e]
       exact hcc' k hlt
      obtain ⟨hg,c0,c1,c2,c3,c4,c5⟩:=hcc k hlt
      have HOKk:Hid _:=stAt_ok HOK.out k
      obtain ⟨s1,hs1⟩:∃ s1,stAt all k=s1:=⟨_,rfl⟩
      rw [hs1] at c0 c1 c2 c3 c4 c5 HOKk HKK0
      obtain ⟨K1,M1,A1,B1,P1,X1⟩:=s1
      dsimp only at c0 c1 c2 c3 c4 c5
      have HE:Hid _:=hs1
      have HKK:Hid (∀ wX,Below (w.alloc (.cells #[.int .i64 1,.string (bs M),.int .i64 A,.int .i64 B,.int .i64 P,.bool X] 143)).heap.size (w.alloc (.cells #[.int .i64 1,.string (bs M),.int .i64 A,.int .i64 B,.int .i64 P,.bool X] 143)) wX->(fun wX=>wX.cell? ⟨g,k * 6,none⟩=some (.int .i64 K1)/\wX.cell? ⟨g,k * 6+2,none⟩=some (.int .i64 A1)/\wX.cell? ⟨g,k * 6+3,none⟩=some (.int .i64 B1)/\wX.cell? ⟨w.heap.size,2,none⟩=some (.int .i64 A)/\wX.cell? ⟨w.heap.size,3,none⟩=some (.int .i64 B)) wX):=hidP fun wX hX=>⟨(HKK0.out wX hX).k,(HKK0.out wX hX).a,(HKK0.out wX hX).b,(HC.out wX hX).2.1,(HC.out wX hX).2.2.1⟩
      have HM:Hid _:=l3Meet_any B A B1 A1 HAB.out.2 HAB.out.1 ⟨HOKk.out.b0,HOKk.out.b1⟩ ⟨HOKk.out.a0,HOKk.out.a1⟩
      have L1:(0:Int)<=(k:Int):=by omega
      have L2:(k:Int) < (all.length:Int):=by omega
      clear hs1 hcc hR0 c1 c4 c5
      cases hK1:K1 == 1
      ·have HF:Hid (hitObj ⟨1,M,A,B,P,X⟩ ⟨K1,M1,A1,B1,P1,X1⟩=false):=hidP <| by unfold hitObj; rw [hK1]; rfl
       go_wp2_with fail
       refine wp_region_held_drew (S:=(fun wX=>wX.cell? ⟨g,k * 6,none⟩=some (.int .i64 K1)/\wX.cell? ⟨g,k * 6+2,none⟩=some (.int .i64 A1)/\wX.cell? ⟨g,k * 6+3,none⟩=some (.int .i64 B1)/\wX.cell? ⟨w.heap.size,2,none⟩=some (.int .i64 A)/\wX.cell? ⟨w.heap.size,3,none⟩=some (.int .i64 B))) (by kernel_rfl) (HKK.out _ HB.out.drew) (fun hHeld=>?_)
       refine tk 0 ?_
       refine tk 1 ?_
       refine tk 2 ?_
       refine tk 3 ?_
       refine tk 4 ?_
       refine tk 5 ?_
       refine tk 6 ?_
       refine sk 7 ?_
       refine sk 8 ?_
       refine sk 9 ?_
       refine sk 10 ?_
       refine sk 11 ?_
       refine sk 12 ?_
       refine sk 13 ?_
       refine sk 14 ?_
       refine sk 15 ?_
       refine sk 16 ?_
       refine sk 17 ?_
       refine sk 18 ?_
       refine sk 19 ?_
       refine sk 20 ?_
       refine sk 21 ?_
       refine tk 22 ?_
       refine wpAnyH_done (by kernel_rfl) ?_ _
       go_wp2_with fail
       go_roundw
       case rel=>exact ⟨k+1,by omega,by go_num,hidP fun j hj=>by
         by_cases e:j=k
         ·rw [e,HE.out]; exact HF.out
         ·exact HJ.out j (by omega),HB.out.drew⟩
       case measure=>first | (simp [intOf]; done) | (simp [intOf]; omega)
      ·cases hm:meetB B A B1 A1 <;> rw [hm] at HM
       ·have HF:Hid (hitObj ⟨1,M,A,B,P,X⟩ ⟨K1,M1,A1,B1,P1,X1⟩=false):=hidP <| by unfold hitObj; rw [hK1]; exact hm
        clear hm
        go_wp2_with fail
        refine wp_region_held_drew (S:=(fun wX=>wX.cell? ⟨g,k * 6,none⟩=some (.int .i64 K1)/\wX.cell? ⟨g,k * 6+2,none⟩=some (.int .i64 A1)/\wX.cell? ⟨g,k * 6+3,none⟩=some (.int .i64 B1)/\wX.cell? ⟨w.heap.size,2,none⟩=some (.int .i64 A)/\wX.cell? ⟨w.heap.size,3,none⟩=some (.int .i64 B))) (by kernel_rfl) (HKK.out _ HB.out.drew) (fun hHeld=>?_)
        refine tk 0 ?_
        refine tk 1 ?_
        refine tk 2 ?_
        refine tk 3 ?_
        refine tk 4 ?_
        refine tk 5 ?_
        refine tk 6 ?_
        refine tk 7 ?_
        refine tk 8 ?_
        refine tk 9 ?_
        refine tk 10 ?_
        refine tk 11 ?_
        refine tk 12 ?_
        refine tk 13 ?_
        refine tk 14 ?_
        refine tk 15 ?_
        refine tk 16 ?_
        refine tk 17 ?_
        refine tk 18 ?_
        refine tk 19 ?_
        refine tk 20 ?_
        refine wpAnyH_ready (rs:=[21]) (by kernel_rfl) (by simp) ?_
        refine AllReadyH.cons rfl (fun K hK=>?_) AllReadyH.nil
        go_simp
        go_at_call 115
        refine (HM.out _).mono ?_
        rintro e w2 ⟨rfl,hw2⟩
        obtain rfl:=hw2.symm
        go_wp2_with fail
        refine hK.out _ _ (HKK.out _ HB.out.drew) (fun hHeld2=>?_)
        clear hK K
        refine tk 22 ?_
        refine wpAnyH_done (by kernel_rfl) ?_ _
        go_wp2_with fail
        go_roundw
        case rel=>exact ⟨k+1,by omega,by go_num,hidP fun j hj=>by
          by_cases e:j=k
          ·rw [e,HE.out]; exact HF.out
          ·exact HJ.out j (by omega),HB.out.drew⟩
        case measure=>first | (simp [intOf]; done) | (simp [intOf]; omega)
       ·have HV:Hid (codeL all ⟨1,M,A,B,P,X⟩=8):=hidP <| by
         rw [HX2.out,any_hit hlt (by rw [HE.out]; unfold hitObj; rw [hK1]; exact hm)]; rfl
        clear hm
        go_wp2_with fail
        refine wp_region_held_drew (S:=(fun wX=>wX.cell? ⟨g,k * 6,none⟩=some (.int .i64 K1)/\wX.cell? ⟨g,k * 6+2,none⟩=some (.int .i64 A1)/\wX.cell? ⟨g,k * 6+3,none⟩=some (.int .i64 B1)/\wX.cell? ⟨w.heap.size,2,none⟩=some (.int .i64 A)/\wX.cell? ⟨w.heap.size,3,none⟩=some (.int .i64 B))) (by kernel_rfl) (HKK.out _ HB.out.drew) (fun hHeld=>?_)
        refine tk 0 ?_
        refine tk 1 ?_
        refine tk 2 ?_
        refine tk 3 ?_
        refine tk 4 ?_
        refine tk 5 ?_
        refine tk 6 ?_
        refine tk 7 ?_
        refine tk 8 ?_
        refine tk 9 ?_
        refine tk 10 ?_
        refine tk 11 ?_
        refine tk 12 ?_
        refine tk 13 ?_
        refine tk 14 ?_
        refine tk 15 ?_
        refine tk 16 ?_
        refine tk 17 ?_
        refine tk 18 ?_
        refine tk 19 ?_
        refine tk 20 ?_
        refine wpAnyH_ready (rs:=[21]) (by kernel_rfl) (by simp) ?_
        refine AllReadyH.cons rfl (fun K hK=>?_) AllReadyH.nil
        go_simp
        go_at_call 115
        refine (HM.out _).mono ?_
        rintro e w2 ⟨rfl,hw2⟩
        obtain rfl:=hw2.symm
        go_wp2_with fail
        refine hK.out _ _ (HKK.out _ HB.out.drew) (fun hHeld2=>?_)
        clear hK K
        refine tk 22 ?_
        refine wpAnyH_done (by kernel_rfl) ?_ _
        go_wp2_with fail
        go_ret
        exact ⟨by rw [HV.out]; rfl,HBW.out.trans (HB.out.drew.mono (by simp))⟩
     ·have HV:Hid (codeL all ⟨1,M,A,B,P,X⟩=0):=hidP <| by
       rw [HX2.out,any_none (fun j hj=>HJ.out j (by omega))]; rfl
      go_wp2_with fail
      go_ret
      exact ⟨by rw [HV.out]; rfl,HBW.out.trans (HB.out.mono (by simp))⟩
 ·have HV:Hid (codeL all ⟨1,M,A,B,P,X⟩=5):=hidP <| by rw [HX1.out,h1]; rfl
  go_enter Tryz.func81,Tryz.ntmps81
  go_wp2_with fail
  refine (HO.out _ bal).mono ?_
  rintro e w1 ⟨rfl,hb1⟩
  obtain ⟨-,q2,q3,q0,q5⟩:=HC.out w1 hb1
  have hz1:w.heap.size < w1.heap.size:=by have:=hb1.size; rw [HSZ2.out] at this; omega
  go_wp2_with fail
  go_ret
  refine ⟨by rw [HV.out]; rfl,?_⟩
  exact HBW.out.trans ((hb1.alloc hb1.size _).mono (by simp))
set_option maxHeartbeats 8000000 in
theorem code_3 (a:Option Addr) (c:Nat) (all:List St) (M:Txt) (A B P:Int) (X:Bool) (w:World) (hle:all.length<=1000) (hr:StR w a all) (hall:∀ t ∈ all,StOk t) (hs:StOk ⟨3,M,A,B,P,X⟩) :
  Calls Tryz.prog 81 #[.slice a all.length c,stV ⟨3,M,A,B,P,X⟩] w fun e w'=>e=.returned (.int .i64 (codeL all ⟨3,M,A,B,P,X⟩))/\Below w.heap.size w w':=by
 obtain ⟨i0,hi,hz0,hz1q,hz2q⟩:=info_parts infoSt
 obtain ⟨R,hR⟩:∃ R,objOf all M=R:=⟨_,rfl⟩
 obtain ⟨Z,hZ⟩:∃ Z,szOf all ⟨3,M,A,B,P,X⟩=Z:=⟨_,rfl⟩
 have hZb:=szOf_ok hall hs
 rw [hZ] at hZb
 obtain ⟨k2,m2,a2,b2,p2,x2⟩:=R
 have HO:Hid (∀ wX,Below w.heap.size w wX->Calls Tryz.prog 114 #[.slice a all.length c,.string (bs M)] wX fun e w'=>e=.returned (.agg #[.int .i64 k2,.string (bs m2),.int .i64 a2,.int .i64 b2,.int .i64 p2,.bool x2])/\Below wX.heap.size wX w'):=hidP fun wX hX=>by
  have:=l4Object_any a c all M wX hle (hr.below hX)
  rw [hR] at this
  exact this
 have HC:Hid (∀ wX,Below (w.alloc (.cells #[.int .i64 3,.string (bs M),.int .i64 A,.int .i64 B,.int .i64 P,.bool X] 143)).heap.size (w.alloc (.cells #[.int .i64 3,.string (bs M),.int .i64 A,.int .i64 B,.int .i64 P,.bool X] 143)) wX->StR wX a all/\wX.cell? ⟨w.heap.size,0,none⟩=some (.int .i64 3)/\wX.cell? ⟨w.heap.size,1,none⟩=some (.string (bs M))/\wX.cell? ⟨w.heap.size,2,none⟩=some (.int .i64 A)/\wX.cell? ⟨w.heap.size,3,none⟩=some (.int .i64 B)/\wX.cell? ⟨w.heap.size,4,none⟩=some (.int .i64 P)/\wX.cell? ⟨w.heap.size,5,none⟩=some (.bool X)):=hidP fun wX hX=>by
  refine ⟨(hr.below bal).below hX,?_,?_,?_,?_,?_,?_⟩ <;> (rw [hX.cell (by simp)]; simp)
 have HS:Hid (∀ wX,Below (w.alloc (.cells #[.int .i64 3,.string (bs M),.int .i64 A,.int .i64 B,.int .i64 P,.bool X] 143)).heap.size (w.alloc (.cells #[.int .i64 3,.string (bs M),.int .i64 A,.int .i64 B,.int .i64 P,.bool X] 143)) wX->Calls Tryz.prog 116 #[.slice a all.length c,.agg #[.int .i64 3,.string (bs M),.int .i64 A,.int .i64 B,.int .i64 P,.bool X]] wX fun e w'=>e=.returned (.int .i64 Z)/\Below wX.heap.size wX w'):=hidP fun wX hX=>by
  have:=l4Size_any a c all ⟨3,M,A,B,P,X⟩ wX hle (HC.out wX hX).1
  rw [hZ] at this
  exact this
 have HSA:Hid (∀ (s1:St) wX,Below (w.alloc (.cells #[.int .i64 3,.string (bs M),.int .i64 A,.int .i64 B,.int .i64 P,.bool X] 143)).heap.size (w.alloc (.cells #[.int .i64 3,.string (bs M),.int .i64 A,.int .i64 B,.int .i64 P,.bool X] 143)) wX->Calls Tryz.prog 116 #[.slice a all.length c,stV s1] wX fun e w'=>e=.returned (.int .i64 (szOf all s1))/\Below wX.heap.size wX w'):=hidP fun s1 wX hX=>l4Size_any a c all s1 wX hle (HC.out wX hX).1
 have HOK:Hid _:=hall
 have HSK:Hid _:=hs
 have HBW:Hid (Below w.heap.size w (w.alloc (.cells #[.int .i64 3,.string (bs M),.int .i64 A,.int .i64 B,.int .i64 P,.bool X] 143))):=bal
 have HAZ:Hid ((0<=A/\A < 1000000)/\(0<=Z/\Z < 1000000)):=⟨⟨hs.a0,hs.a1⟩,hZb⟩
 have hA1:0<=A/\A < 1000000:=⟨hs.a0,hs.a1⟩
 have HX1:Hid (codeL all ⟨3,M,A,B,P,X⟩=if Z == 0 || decide (4096 < A+Z) then 7 else if all.any (hitPg all A Z) then 8 else 0):=hidP <| by
  show (if (3:Int) == 0 then (4:Int) else if (3:Int) == 1 then _ else if (3:Int) == 2 && (objOf all M).kind == 0 then 6 else _)=_
  rw [if_neg (by decide),if_neg (by decide),hR,hZ]
  rfl
 have HSZ2:Hid ((w.alloc (.cells #[.int .i64 3,.string (bs M),.int .i64 A,.int .i64 B,.int .i64 P,.bool X] 143)).heap.size=w.heap.size+1):=hidP (by simp)
 clear hr hall hR hs hZ
 unfold stV
 dsimp only
 by_cases hZ0:Z=0
 ·have HV:Hid (codeL all ⟨3,M,A,B,P,X⟩=7):=hidP <| by rw [HX1.out,if_pos (by simp [hZ0])]
  have e0:(Z == 0)=true:=by simp [hZ0]
  clear hZ0
  go_enter Tryz.func81,Tryz.ntmps81
  go_wp2_with fail
  refine (HO.out _ bal).mono ?_
  rintro e w1 ⟨rfl,hb1⟩
  obtain ⟨-,q0,q1,q2,q3,q4,q5⟩:=HC.out w1 hb1
  have hz1:w.heap.size < w1.heap.size:=by have:=hb1.size; rw [HSZ2.out] at this; omega
  go_wp2_with fail
  have hb1':Below (w.alloc (.cells #[.int .i64 3,.string (bs M),.int .i64 A,.int .i64 B,.int .i64 P,.bool X] 143)).heap.size (w.alloc (.cells #[.int .i64 3,.string (bs M),.int .i64 A,.int .i64 B,.int .i64 P,.bool X] 143)) (w1.alloc (.cells #[.int .i64 k2,.string (bs m2),.int .i64 a2,.int .i64 b2,.int .i64 p2,.bool x2] 143)):=hb1.alloc hb1.size _
  refine (HS.out _ hb1').mono ?_
  rintro e w2 ⟨rfl,hb2⟩
  have hz3:w1.heap.size < w2.heap.size:=by have:=hb2.size; simp at this; omega
  have HB2:Hid (Below (w.alloc (.cells #[.int .i64 3,.string (bs M),.int .i64 A,.int .i64 B,.int .i64 P,.bool X] 143)).heap.size (w.alloc (.cells #[.int .i64 3,.string (bs M),.int .i64 A,.int .i64 B,.int .i64 P,.bool X] 143)) w2):=hidP (hb1'.trans (hb2.mono (by rw [HSZ2.out]; simp; omega)))
  have HKN:Hid (w2.cell? ⟨w1.heap.size,0,none⟩=some (.int .i64 k2)/\w2.cell? ⟨w1.heap.size,5,none⟩=some (.bool x2)):=hidP <| by
   refine ⟨?_,?_⟩ <;> (rw [hb2.cell (by simp)]; simp)
  clear hb1 hb1' hb2 q0 q1 q2 q3 q4 q5
  obtain ⟨-,q0,q1,q2,q3,q4,q5⟩:=HC.out w2 HB2.out
  obtain ⟨n0,n5⟩:=HKN.out
  go_wp2_with fail
  go_ret
  refine ⟨by rw [HV.out]; rfl,?_⟩
  exact HBW.out.trans (HB2.out.mono (by simp))
 have e0:(Z == 0)=false:=by simp [hZ0]
 by_cases hL:4096 < A+Z
 ·have HV:Hid (codeL all ⟨3,M,A,B,P,X⟩=7):=hidP <| by rw [HX1.out,if_pos (by simp [hL])]
  clear hZ0
  go_enter Tryz.func81,Tryz.ntmps81
  go_wp2_with fail
  refine (HO.out _ bal).mono ?_
  rintro e w1 ⟨rfl,hb1⟩
  obtain ⟨-,q0,q1,q2,q3,q4,q5⟩:=HC.out w1 hb1
  have hz1:w.heap.size < w1.heap.size:=by have:=hb1.size; rw [HSZ2.out] at this; omega
  go_wp2_with fail
  have hb1':Below (w.alloc (.cells #[.int .i64 3,.string (bs M),.int .i64 A,.int .i64 B,.int .i64 P,.bool X] 143)).heap.size (w.alloc (.cells #[.int .i64 3,.string (bs M),.int .i64 A,.int .i64 B,.int .i64 P,.bool X] 143)) (w1.alloc (.cells #[.int .i64 k2,.string (bs m2),.int .i64 a2,.int .i64 b2,.int .i64 p2,.bool x2] 143)):=hb1.alloc hb1.size _
  refine (HS.out _ hb1').mono ?_
  rintro e w2 ⟨rfl,hb2⟩
  have hz3:w1.heap.size < w2.heap.size:=by have:=hb2.size; simp at this; omega
  have HB2:Hid (Below (w.alloc (.cells #[.int .i64 3,.string (bs M),.int .i64 A,.int .i64 B,.int .i64 P,.bool X] 143)).heap.size (w.alloc (.cells #[.int .i64 3,.string (bs M),.int .i64 A,.int .i64 B,.int .i64 P,.bool X] 143)) w2):=hidP (hb1'.trans (hb2.mono (by rw [HSZ2.out]; simp; omega)))
  have HKN:Hid (w2.cell? ⟨w1.heap.size,0,none⟩=some (.int .i64 k2)/\w2.cell? ⟨w1.heap.size,5,none⟩=some (.bool x2)):=hidP <| by
   refine ⟨?_,?_⟩ <;> (rw [hb2.cell (by simp)]; simp)
  clear hb1 hb1' hb2 q0 q1 q2 q3 q4 q5
  obtain ⟨-,q0,q1,q2,q3,q4,q5⟩:=HC.out w2 HB2.out
  obtain ⟨n0,n5⟩:=HKN.out
  go_wp2_with fail
  go_ret
  refine ⟨by rw [HV.out]; rfl,?_⟩
  exact HBW.out.trans (HB2.out.mono (by simp))
 have hL':A+Z<=4096:=by omega
 have HX2:Hid (codeL all ⟨3,M,A,B,P,X⟩=if all.any (hitPg all A Z) then 8 else _):=hidP <| by rw [HX1.out,if_neg (by simp [hL,hZ0])]
 clear hZ0 hL
 go_enter Tryz.func81,Tryz.ntmps81
 go_wp2_with fail
 refine (HO.out _ bal).mono ?_
 rintro e w1 ⟨rfl,hb1⟩
 obtain ⟨-,q0,q1,q2,q3,q4,q5⟩:=HC.out w1 hb1
 have hz1:w.heap.size < w1.heap.size:=by have:=hb1.size; rw [HSZ2.out] at this; omega
 go_wp2_with fail
 have hb1':Below (w.alloc (.cells #[.int .i64 3,.string (bs M),.int .i64 A,.int .i64 B,.int .i64 P,.bool X] 143)).heap.size (w.alloc (.cells #[.int .i64 3,.string (bs M),.int .i64 A,.int .i64 B,.int .i64 P,.bool X] 143)) (w1.alloc (.cells #[.int .i64 k2,.string (bs m2),.int .i64 a2,.int .i64 b2,.int .i64 p2,.bool x2] 143)):=hb1.alloc hb1.size _
 refine (HS.out _ hb1').mono ?_
 rintro e w2 ⟨rfl,hb2⟩
 have hz3:w1.heap.size < w2.heap.size:=by have:=hb2.size; simp at this; omega
 have HB2:Hid (Below (w.alloc (.cells #[.int .i64 3,.string (bs M),.int .i64 A,.int .i64 B,.int .i64 P,.bool X] 143)).heap.size (w.alloc (.cells #[.int .i64 3,.string (bs M),.int .i64 A,.int .i64 B,.int .i64 P,.bool X] 143)) w2):=hidP (hb1'.trans (hb2.mono (by rw [HSZ2.out]; simp; omega)))
 have HKN:Hid (w2.cell? ⟨w1.heap.size,0,none⟩=some (.int .i64 k2)/\w2.cell? ⟨w1.heap.size,5,none⟩=some (.bool x2)):=hidP <| by
  refine ⟨?_,?_⟩ <;> (rw [hb2.cell (by simp)]; simp)
 clear hb1 hb1' hb2 q0 q1 q2 q3 q4 q5
 obtain ⟨-,q0,q1,q2,q3,q4,q5⟩:=HC.out w2 HB2.out
 obtain ⟨n0,n5⟩:=HKN.out
 go_wp2_with fail
 clear n0 q0 q1 q2 q3 q4 q5 n5
 have HBX:Hid (∀ wX,Below w2.heap.size w2 wX->Below (w.alloc (.cells #[.int .i64 3,.string (bs M),.int .i64 A,.int .i64 B,.int .i64 P,.bool X] 143)).heap.size (w.alloc (.cells #[.int .i64 3,.string (bs M),.int .i64 A,.int .i64 B,.int .i64 P,.bool X] 143)) wX):=hidP fun wX hX=>HB2.out.trans (hX.mono (by have:=HB2.out.size; omega))
 have hz4:w.heap.size < w2.heap.size:=by omega
 go_loopw [8] (fun iv wr=>∃ (k:Nat),k<=all.length/\iv=.int .i64 k/\Hid (∀ j,j < k->hitPg all A Z (stAt all j)=false)/\Below w2.heap.size w2 wr) (fun iv _=>all.length - (intOf iv).toNat)
 case atStart=>exact ⟨0,Nat.zero_le _,rfl,hidP fun j hj=>absurd hj (by omega),Below.refl _ _⟩
 case round =>
  obtain ⟨k,hk,rfl,HJ,hbel⟩:=hrel
  have HB:Hid _:=hbel
  have hsz:=hbel.size
  clear hbel
  by_cases hlt:k < all.length
  ·obtain ⟨hR0,-,-,cA,-,-,-⟩:=HC.out wr (HBX.out wr HB.out)
   obtain ⟨g,rfl,hcc⟩:=hR0 (by omega)
   have HKK0:Hid (∀ wX,Below w2.heap.size w2 wX->StC wX g k (stAt all k)):=hidP fun wX hX=>by
    obtain ⟨hR1,_⟩:=HC.out wX (HBX.out wX hX)
    obtain ⟨g',e,hcc'⟩:=hR1 (by omega)
    simp only [Option.some.injEq,Addr.mk.injEq,and_true] at e
    rw [e]
    exact hcc' k hlt
   obtain ⟨hg,c0,c1,c2,c3,c4,c5⟩:=hcc k hlt
   have HOKk:Hid _:=stAt_ok HOK.out k
   have HSZ1a:Hid _:=fun wX (hX:Below w2.heap.size w2 wX)=>HSA.out (stAt all k) wX (HBX.out wX hX)
   obtain ⟨Y,hY⟩:∃ Y,szOf all (stAt all k)=Y:=⟨_,rfl⟩
   have hYb:=szOf_ok HOK.out HOKk.out
   rw [hY] at hYb HSZ1a
   obtain ⟨s1,hs1⟩:∃ s1,stAt all k=s1:=⟨_,rfl⟩
   rw [hs1] at c0 c1 c2 c3 c4 c5 HOKk HKK0 HSZ1a hY
   obtain ⟨K1,M1,A1,B1,P1,X1⟩:=s1
   dsimp only at c0 c1 c2 c3 c4 c5
   have HE:Hid _:=hs1
   have HY:Hid _:=hY
   have HSZ1:Hid (∀ wX,Below w2.heap.size w2 wX->Calls Tryz.prog 116 #[.slice (some ⟨g,0,none⟩) all.length c,.agg #[.int .i64 K1,.string (bs M1),.int .i64 A1,.int .i64 B1,.int .i64 P1,.bool X1]] wX fun e w'=>e=.returned (.int .i64 Y)/\Below wX.heap.size wX w'):=HSZ1a
   have HKK:Hid (∀ wX,Below w2.heap.size w2 wX->(fun wX=>wX.cell? ⟨g,k * 6,none⟩=some (.int .i64 K1)/\wX.cell? ⟨g,k * 6+1,none⟩=some (.string (bs M1))/\wX.cell? ⟨g,k * 6+2,none⟩=some (.int .i64 A1)/\wX.cell? ⟨g,k * 6+3,none⟩=some (.int .i64 B1)/\wX.cell? ⟨g,k * 6+4,none⟩=some (.int .i64 P1)/\wX.cell? ⟨g,k * 6+5,none⟩=some (.bool X1)/\wX.cell? ⟨w.heap.size,2,none⟩=some (.int .i64 A)) wX):=hidP fun wX hX=>⟨(HKK0.out wX hX).k,(HKK0.out wX hX).n,(HKK0.out wX hX).a,(HKK0.out wX hX).b,(HKK0.out wX hX).p,(HKK0.out wX hX).e,(HC.out wX (HBX.out wX hX)).2.2.2.1⟩
   have HM:Hid _:=l3Meet_any A Z A1 Y HAZ.out.1 HAZ.out.2 ⟨HOKk.out.a0,HOKk.out.a1⟩ hYb
   have L1:(0:Int)<=(k:Int):=by omega
   have L2:(k:Int) < (all.length:Int):=by omega
   clear hs1 hcc hR0 hY HSZ1a
   cases hK1:K1 == 1
   ·have hK1':(K1 != 1)=true:=by simpa using hK1
    cases hm:meetB A Z A1 Y <;> rw [hm] at HM
    ·have HF:Hid (hitPg all A Z ⟨K1,M1,A1,B1,P1,X1⟩=false):=hidP <| by unfold hitPg; rw [hK1,HY.out]; exact hm
     clear hm
     go_wp2_with fail
     refine wp_region_held_drew (S:=(fun wX=>wX.cell? ⟨g,k * 6,none⟩=some (.int .i64 K1)/\wX.cell? ⟨g,k * 6+1,none⟩=some (.string (bs M1))/\wX.cell? ⟨g,k * 6+2,none⟩=some (.int .i64 A1)/\wX.cell? ⟨g,k * 6+3,none⟩=some (.int .i64 B1)/\wX.cell? ⟨g,k * 6+4,none⟩=some (.int .i64 P1)/\wX.cell? ⟨g,k * 6+5,none⟩=some (.bool X1)/\wX.cell? ⟨w.heap.size,2,none⟩=some (.int .i64 A))) (by kernel_rfl) (HKK.out _ HB.out.drew) (fun hHeld=>?_)
     refine tk 0 ?_
     refine tk 1 ?_
     refine tk 2 ?_
     refine tk 3 ?_
     refine tk 4 ?_
     refine tk 5 ?_
     refine tk 6 ?_
     refine tk 7 ?_
     refine tk 8 ?_
     refine tk 9 ?_
     refine tk 10 ?_
     refine tk 11 ?_
     refine tk 12 ?_
     refine tk 13 ?_
     refine tk 14 ?_
     refine tk 15 ?_
     refine tk 16 ?_
     refine tk 17 ?_
     refine tk 18 ?_
     refine tk 19 ?_
     refine wpAnyH_ready (rs:=[20]) (by kernel_rfl) (by simp) ?_
     refine AllReadyH.cons rfl (fun K hK=>?_) AllReadyH.nil
     go_simp
     go_at_call 116
     refine (HSZ1.out _ HB.out.drew).mono ?_
     rintro e w4 ⟨rfl,hb4⟩
     have HB4:Hid (Below w2.heap.size w2 w4):=hidP (HB.out.drew.trans (hb4.mono (by have:=HB.out.size; simp; omega)))
     clear hb4
     go_wp2_with fail
     refine hK.out _ _ (HKK.out _ HB4.out) (fun hHeld2=>?_)
     clear hK K
     refine wpAnyH_ready (rs:=[21]) (by kernel_rfl) (by simp) ?_
     refine AllReadyH.cons rfl (fun K hK=>?_) AllReadyH.nil
     go_simp
     go_at_call 115
     refine (HM.out _).mono ?_
     rintro e w5 ⟨rfl,hw5⟩
     obtain rfl:=hw5.symm
     go_wp2_with fail
     refine hK.out _ _ (HKK.out _ HB4.out) (fun hHeld3=>?_)
     clear hK K
     refine tk 22 ?_
     refine wpAnyH_done (by kernel_rfl) ?_ _
     go_wp2_with fail
     go_roundw
     case rel=>exact ⟨k+1,by omega,by go_num,hidP fun j hj=>by
       by_cases e:j=k
       ·rw [e,HE.out]; exact HF.out
       ·exact HJ.out j (by omega),HB4.out⟩
     case measure=>first | (simp [intOf]; done) | (simp [intOf]; omega)
    ·have HV:Hid (codeL all ⟨3,M,A,B,P,X⟩=8):=hidP <| by
      rw [HX2.out,any_hit hlt (by rw [HE.out]; unfold hitPg; rw [hK1,HY.out]; exact hm)]; rfl
     clear hm
     go_wp2_with fail
     refine wp_region_held_drew (S:=(fun wX=>wX.cell? ⟨g,k * 6,none⟩=some (.int .i64 K1)/\wX.cell? ⟨g,k * 6+1,none⟩=some (.string (bs M1))/\wX.cell? ⟨g,k * 6+2,none⟩=some (.int .i64 A1)/\wX.cell? ⟨g,k * 6+3,none⟩=some (.int .i64 B1)/\wX.cell? ⟨g,k * 6+4,none⟩=some (.int .i64 P1)/\wX.cell? ⟨g,k * 6+5,none⟩=some (.bool X1)/\wX.cell? ⟨w.heap.size,2,none⟩=some (.int .i64 A))) (by kernel_rfl) (HKK.out _ HB.out.drew) (fun hHeld=>?_)
     refine tk 0 ?_
     refine tk 1 ?_
     refine tk 2 ?_
     refine tk 3 ?_
     refine tk 4 ?_
     refine tk 5 ?_
     refine tk 6 ?_
     refine tk 7 ?_
     refine tk 8 ?_
     refine tk 9 ?_
     refine tk 10 ?_
     refine tk 11 ?_
     refine tk 12 ?_
     refine tk 13 ?_
     refine tk 14 ?_
     refine tk 15 ?_
     refine tk 16 ?_
     refine tk 17 ?_
     refine tk 18 ?_
     refine tk 19 ?_
     refine wpAnyH_ready (rs:=[20]) (by kernel_rfl) (by simp) ?_
     refine AllReadyH.cons rfl (fun K hK=>?_) AllReadyH.nil
     go_simp
     go_at_call 116
     refine (HSZ1.out _ HB.out.drew).mono ?_
     rintro e w4 ⟨rfl,hb4⟩
     have HB4:Hid (Below w2.heap.size w2 w4):=hidP (HB.out.drew.trans (hb4.mono (by have:=HB.out.size; simp; omega)))
     clear hb4
     go_wp2_with fail
     refine hK.out _ _ (HKK.out _ HB4.out) (fun hHeld2=>?_)
     clear hK K
     refine wpAnyH_ready (rs:=[21]) (by kernel_rfl) (by simp) ?_
     refine AllReadyH.cons rfl (fun K hK=>?_) AllReadyH.nil
     go_simp
     go_at_call 115
     refine (HM.out _).mono ?_
     rintro e w5 ⟨rfl,hw5⟩
     obtain rfl:=hw5.symm
     go_wp2_with fail
     refine hK.out _ _ (HKK.out _ HB4.out) (fun hHeld3=>?_)
     clear hK K
     refine tk 22 ?_
     refine wpAnyH_done (by kernel_rfl) ?_ _
     go_wp2_with fail
     go_ret
     exact ⟨by rw [HV.out]; rfl,HBW.out.trans ((HBX.out _ HB4.out).mono (by simp))⟩
   ·have hK1':(K1 != 1)=false:=by simpa using hK1
    have HF:Hid (hitPg all A Z ⟨K1,M1,A1,B1,P1,X1⟩=false):=hidP <| by unfold hitPg; rw [hK1]; rfl
    go_wp2_with fail
    refine wp_region_held_drew (S:=(fun wX=>wX.cell? ⟨g,k * 6,none⟩=some (.int .i64 K1)/\wX.cell? ⟨g,k * 6+1,none⟩=some (.string (bs M1))/\wX.cell? ⟨g,k * 6+2,none⟩=some (.int .i64 A1)/\wX.cell? ⟨g,k * 6+3,none⟩=some (.int .i64 B1)/\wX.cell? ⟨g,k * 6+4,none⟩=some (.int .i64 P1)/\wX.cell? ⟨g,k * 6+5,none⟩=some (.bool X1)/\wX.cell? ⟨w.heap.size,2,none⟩=some (.int .i64 A))) (by kernel_rfl) (HKK.out _ HB.out.drew) (fun hHeld=>?_)
    refine tk 0 ?_
    refine tk 1 ?_
    refine tk 2 ?_
    refine tk 3 ?_
    refine tk 4 ?_
    refine tk 5 ?_
    refine tk 6 ?_
    refine sk 7 ?_
    refine sk 8 ?_
    refine sk 9 ?_
    refine sk 10 ?_
    refine sk 11 ?_
    refine sk 12 ?_
    refine sk 13 ?_
    refine sk 14 ?_
    refine sk 15 ?_
    refine sk 16 ?_
    refine sk 17 ?_
    refine sk 18 ?_
    refine sk 19 ?_
    refine sk 20 ?_
    refine sk 21 ?_
    refine tk 22 ?_
    refine wpAnyH_done (by kernel_rfl) ?_ _
    go_wp2_with fail
    go_roundw
    case rel=>exact ⟨k+1,by omega,by go_num,hidP fun j hj=>by
      by_cases e:j=k
      ·rw [e,HE.out]; exact HF.out
      ·exact HJ.out j (by omega),HB.out.drew⟩
    case measure=>first | (simp [intOf]; done) | (simp [intOf]; omega)
  ·have HX3:Hid (codeL all ⟨3,M,A,B,P,X⟩=_):=hidP <| by
    rw [HX2.out,any_none (fun j hj=>HJ.out j (by omega))] <;> rfl
   obtain ⟨-,q0,q1,q2,q3,q4,q5⟩:=HC.out wr (HBX.out wr HB.out)
   have n5:wr.cell? ⟨w1.heap.size,5,none⟩=some (.bool x2):=(HB.out.cell (p:=⟨w1.heap.size,5,none⟩) hz3).trans HKN.out.2
   go_wp2_with fail
   go_ret
   exact ⟨by rw [HX3.out]; rfl,HBW.out.trans ((HBX.out _ HB.out).mono (by simp))⟩
end Go.Proofs.YtnmhkgmmpkjjeacGreat
