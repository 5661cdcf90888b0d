import Derived.Test.YtnmhkgmmpkjjeaaRows
import Derived.Test.YtnmhkgmmpkjjeaaG00
import Derived.Test.YtnmhkgmmpkjjeaaG16
import Derived.Deep.DeepCutAuto
import Derived.Test.YtnmhkgmmpkjjeaaG04
namespace Go.Proofs.Ytnmhkgmmpkjjeaa
open Go.ChangeShapes Go.WideShapes Go.ChangeAt Go.RowKit
set_option linter.unusedVariables false
set_option maxRecDepth 100000
theorem hidP {p:Prop} (h:p):Hid p:=h
theorem erow_push {α:Type} {E:Elt α} {w:World} {B n:Nat} {v:Value} {xs:List α} {x:α} (hn:xs.length=n) (h:w.ownsRow B E.T E.sz v (n+1) (ecells E xs ++ E.enc x)):ERow E w B v (xs ++ [x]):=by
 unfold ERow
 rw [ecells_append,List.length_append,List.length_singleton,hn]
 have e:ecells E [x]=E.enc x:=by simp [ecells]
 rw [e]
 exact h
structure LS {α:Type} (E:Elt α) (w:World) (wr:World) (vv:Value) (l:List α):Prop where
 row:∃ g c:Nat,vv=.slice (some ⟨g,0,none⟩) l.length c/\ERow E wr w.heap.size (.slice (some ⟨g,0,none⟩) l.length c) l
 bel:Below w.heap.size w wr
theorem LS.below {α:Type} {E:Elt α} {w wr w1:World} {vv:Value} {l:List α} (h:LS E w wr vv l) (hb:Below wr.heap.size wr w1):LS E w w1 vv l:=by
 obtain ⟨⟨g,c,e,hr⟩,hbel⟩:=h
 exact ⟨⟨g,c,e,hr.below hb⟩,hbel.trans (hb.mono hbel.size)⟩
theorem LS.push {α:Type} {E:Elt α} {w w1 wn:World} {g c g1 c1:Nat} {l:List α} {x:α} {o:Obj} (hbel:Below w.heap.size w w1) (hr:ERow E w1 w.heap.size (.slice (some ⟨g,0,none⟩) l.length c) l) (hown:wn.ownsRow w.heap.size E.T E.sz (.slice (some ⟨g1,0,none⟩) (l.length+1) c1) (l.length+1) (ecells E l ++ E.enc x)) (hgrow:(w1.alloc o).grownBy wn (Value.ownBlock (.slice (some ⟨g,0,none⟩) l.length c))) :
  LS E w wn (.slice (some ⟨g1,0,none⟩) (l.length+1) c1) (l ++ [x]):=by
 refine ⟨⟨g1,c1,by simp,?_⟩,?_⟩
 ·have:=erow_push rfl hown
  rw [List.length_append,List.length_singleton]
  exact this
 ·exact (hbel.alloc hbel.size _).grown hgrow (by have:=hbel.size; simp; omega) (fun q hq=>(hr.own q hq).1)
theorem LS.new {α:Type} (E:Elt α) (w:World):LS E w (w.alloc (.cells #[] E.T)) (.slice (some ⟨w.heap.size,0,none⟩) 0 0) []:=⟨⟨w.heap.size,0,rfl,ERow.empty E w w.heap.size (Nat.le_refl _)⟩,bal⟩
end Go.Proofs.Ytnmhkgmmpkjjeaa
namespace Go.Proofs.Ytnmhkgmmpkjjeaa
open Go.ChangeShapes Go.WideShapes Go.ChangeAt Go.RowKit
set_option linter.unusedVariables false
set_option maxRecDepth 100000
attribute [local go_sem ↓] Go.wp_at_zero Go.wp_at_succ
def goA (zs:List Int) (page:Int):Nat->Int->Int->Int
 | 0,_,f=>f * 16+idx page 3
 | d+1,l,f=>if dKind l (zs.getD (f * 16+idx page l).toNat 0)=1/\dOut l (zs.getD (f * 16+idx page l).toNat 0) < nfr zs.length then goA zs page d (l+1) (dOut l (zs.getD (f * 16+idx page l).toNat 0)) else f * 16+idx page l
def addrD (zs:List Int) (page:Int):Int:=goA zs page 2 1 0
theorem goA_bd (zs:List Int) (page:Int) (hp0:0<=page) (hp1:page < 4096) (hn:nfr zs.length ≠ 0):∀ d l f,0<=f->f < nfr zs.length->0<=goA zs page d l f/\goA zs page d l f < zs.length
 | 0,l,f,h0,h1=>by
  have:=idx_bd page 3 hp0 hp1
  have:=nfr_mul zs.length hn
  unfold goA; omega
 | d+1,l,f,h0,h1=>by
  have:=idx_bd page l hp0 hp1
  have:=nfr_mul zs.length hn
  unfold goA
  split
  ·rename_i h
   exact goA_bd zs page hp0 hp1 hn d _ _ (dOut_lo _ _).1 h.2
  ·omega
theorem addrD_bd (zs:List Int) (page:Int) (hp0:0<=page) (hp1:page < 4096) (hn:nfr zs.length ≠ 0):0<=addrD zs page/\addrD zs page < zs.length :=
 goA_bd zs page hp0 hp1 hn 2 1 0 (by omega) (by have:=nfr_mul zs.length hn; omega)
set_option maxHeartbeats 4000000 in
theorem addrS_any (g cz:Nat) (zs:List Int) (page:Int) (w:World) (hp0:0<=page) (hp1:page < 4096) (hz:OkMem zs) (hg:CRow w g zs) :
  Calls Try.prog 79 #[.agg #[.slice (some ⟨g,0,none⟩) zs.length cz],.int .i64 page] w fun e w'=>e=.returned (.int .i64 (addrD zs page))/\Below w.heap.size w w':=by
 have hn:=nfr_mul zs.length hz.n0
 have hnl:=nfr_le zs.length
 have hgl:=hg.lt
 obtain ⟨wb,hwb⟩:∃ wb,wb=w.alloc (.cells #[.slice (some ⟨g,0,none⟩) zs.length cz] 25):=⟨_,rfl⟩
 have hbb:Below w.heap.size w wb:=by rw [hwb]; exact bal
 have hzb:wb.heap.size=w.heap.size+1:=by rw [hwb]; simp
 have HKS:Hid (∀ wX,Below wb.heap.size wb wX->wX.cell? ⟨w.heap.size,0,none⟩=some (.slice (some ⟨g,0,none⟩) zs.length cz)/\∀ i,i < zs.length->wX.cell? ⟨g,i,none⟩=some (.int .u64 (zs.getD i 0))):=hidP fun wX hX=>⟨(hX.cell (by simp; omega)).trans (by rw [hwb]; simp [go_sem]),fun i hi=>((hg.below hbb hgl).below hX (by omega)).cell hi⟩
 have HIX:Hid (∀ l wX,Calls Try.prog 97 #[.int .i64 page,.int .i64 l] wX fun e w'=>e=.returned (.int .i64 (idx page l))/\w'=wX):=hidP fun l wX=>index_any page l hp0 hp1 wX
 have HDE:Hid (∀ l x wX,0<=x->x < 2 ^ 64->Calls Try.prog 27 #[.int .i64 l,.int .u64 x] wX fun e w'=>e=.returned (descV l x)/\Below wX.heap.size wX w'):=hidP fun l x wX h0 h1=>specDecode_any l x h0 h1 wX
 have HFR:Hid (∀ wX,Calls Try.prog 39 #[.agg #[.slice (some ⟨g,0,none⟩) zs.length cz]] wX fun e w'=>e=.returned (.int .i64 (nfr zs.length))/\Below wX.heap.size wX w'):=hidP fun wX=>frames_any (some ⟨g,0,none⟩) zs.length cz (by omega) wX
 have HRG:Hid (∀ i,0<=zs.getD i 0/\zs.getD i 0 < 2 ^ 64):=hidP hz.rng
 have HIB:Hid (∀ l,0<=idx page l/\idx page l < 16):=hidP fun l=>idx_bd page l hp0 hp1
 have HG:Hid (∀ d l f,goA zs page (d+1) l f=if dKind l (zs.getD (f * 16+idx page l).toNat 0)=1/\dOut l (zs.getD (f * 16+idx page l).toNat 0) < nfr zs.length then goA zs page d (l+1) (dOut l (zs.getD (f * 16+idx page l).toNat 0)) else f * 16+idx page l):=hidP fun d l f=>rfl
 have HG0:Hid (∀ l f,goA zs page 0 l f=f * 16+idx page 3):=hidP fun l f=>rfl
 have HDO:Hid (∀ l x,0<=dOut l x):=hidP fun l x=>(dOut_lo l x).1
 have HAD:Hid (addrD zs page=goA zs page 2 1 0):=hidP rfl
 generalize addrD zs page=RA at *
 have HWB:Hid (wb=_):=hwb
 have HBB:Hid (Below w.heap.size w wb):=hbb
 have hn1:nfr zs.length * 16=zs.length:=hn.1
 have hn2:1<=nfr zs.length:=hn.2
 generalize nfr zs.length=nf at *
 generalize hL:zs.length=L at *
 clear hz hg hwb hbb hn
 go_enter Try.func79,Try.ntmps79
 go_wp2_with fail
 rw [<- HWB.out]
 go_loopw [5,6] (fun fv lv wr=>∃ (k:Nat) (F:Int),k<=2/\fv=.int .i64 F/\lv=.int .i64 (k+1:Int)/\0<=F/\F < nf/\Hid (RA=goA zs page (2 - k) (k+1) F)/\Below wb.heap.size wb wr) (fun _ lv _=>3 - (intOf lv).toNat)
 case atStart=>exact ⟨0,0,by omega,rfl,rfl,by omega,by omega,HAD,Below.refl _ _⟩
 case round =>
  obtain ⟨k,F,hk,rfl,rfl,hF0,hF1,HRA,hb⟩:=hrel
  have sr:=hb.size
  by_cases hlt:k < 2
  ·have L0:((k:Int)+1) < 3:=by omega
   obtain ⟨IX,hIX⟩:∃ IX,idx page ((k:Int)+1)=IX:=⟨_,rfl⟩
   have hib:=HIB.out ((k:Int)+1)
   rw [hIX] at hib
   obtain ⟨Ad,hAd⟩:∃ Ad:Nat,(Ad:Int)=F * 16+IX:=⟨(F * 16+IX).toNat,by omega⟩
   have hA2:Ad < L:=by omega
   have hAn:(F * 16+IX).toNat=Ad:=by omega
   obtain ⟨X,hX⟩:∃ X,zs.getD Ad 0=X:=⟨_,rfl⟩
   have hrg:=HRG.out Ad
   rw [hX] at hrg
   have HK1:Hid (∀ wX,Below wr.heap.size wr wX->wX.cell? ⟨w.heap.size,0,none⟩=some (.slice (some ⟨g,0,none⟩) L cz)/\wX.cell? ⟨g,Ad,none⟩=some (.int .u64 X)):=hidP fun wX h1=>by
    obtain ⟨x0,x1⟩:=HKS.out wX (hb.trans (h1.mono sr))
    have:=x1 Ad hA2
    rw [hX] at this
    exact ⟨x0,this⟩
   have hidx:=HIX.out ((k:Int)+1)
   rw [hIX] at hidx
   have hdec:=fun wX=>HDE.out ((k:Int)+1) X wX hrg.1 hrg.2
   have HSR:Hid (RA=if dKind ((k:Int)+1) X=1/\dOut ((k:Int)+1) X < nf then goA zs page (2 - (k+1)) ((k:Int)+1+1) (dOut ((k:Int)+1) X) else F * 16+IX):=hidP (by
    have:=HG.out (2 - (k+1)) ((k:Int)+1) F
    rw [hIX,hAn,hX,show 2 - (k+1)+1=2 - k by omega] at this
    rw [HRA.out,this])
   have hdo:=HDO.out ((k:Int)+1) X
   unfold descV desc3 at hdec
   generalize dKind ((k:Int)+1) X=K at *
   generalize dOut ((k:Int)+1) X=O at *
   generalize dPerm ((k:Int)+1) X=P at *
   have W1:IntKind.i64.wrap (F * 16)=F * 16:=by rw [IntKind.wrap_i64]; omega
   have W2:IntKind.i64.wrap (F * 16+IX)=(Ad:Int):=by rw [IntKind.wrap_i64]; omega
   have LA:(Ad:Int) < (L:Int):=by omega
   have LB:(0:Int)<=(Ad:Int):=by omega
   have HBr:Hid (Below wb.heap.size wb wr):=hb
   have HAd:Hid ((Ad:Int)=F * 16+IX):=hAd
   have HIXX:Hid (idx page ((k:Int)+1)=IX):=hIX
   clear hIX hAn hX hrg hb hAd HRA
   go_upto_region 5 with fail
   go_cut [7] (fun d wx=>∃ D,d=.pointer (some ⟨D,0,none⟩)/\wx.cell? ⟨D,0,none⟩=some (.int .i64 K)/\wx.cell? ⟨D,1,none⟩=some (.int .i64 O)/\wr.heap.size<=D/\D < wx.heap.size/\Below wr.heap.size wr wx)
   case first =>
    go_region_held3 (fun wX=>wX.cell? ⟨w.heap.size,0,none⟩=some (.slice (some ⟨g,0,none⟩) L cz)/\wX.cell? ⟨g,Ad,none⟩=some (.int .u64 X))
     ((refine HK1.out _ ?_; repeat (first | exact Below.refl _ _ | with_reducible refine Below.drew ?_ | with_reducible refine Below.setCell ?_ (by first | omega | (simp <;> omega)) _ | with_reducible refine Below.alloc ?_ (by first | omega | (simp <;> omega)) _ | refine Below.trans ?_ (hb1.mono (by first | omega | (simp <;> omega))))))
     (first
      | (go_at_call 97; refine (hidx _).mono ?_; rintro e wE ⟨rfl,hwE⟩; obtain rfl:=hwE.symm)
      | (go_at_call 27; refine (hdec _).mono ?_; rintro e w1 ⟨rfl,hb1⟩; obtain ⟨hc1,hf1⟩:=bcell hb1; have hz1:=hb1.size; simp at hz1))
    all_goals
     go_wp2_with fail
     go_meet
     case rel =>
      refine ⟨_,rfl,?_,?_,?_,?_,?_⟩
      ·first | (simp [go_sem,hc1]; done) | simp [go_sem]
      ·first | (simp [go_sem,hc1]; done) | simp [go_sem]
      ·first | omega | (simp <;> omega)
      ·first | omega | (simp <;> omega)
      ·repeat (first | exact Below.refl _ _ | with_reducible refine Below.drew ?_ | with_reducible refine Below.setCell ?_ (by first | omega | (simp <;> omega)) _ | with_reducible refine Below.alloc ?_ (by first | omega | (simp <;> omega)) _ | refine Below.trans ?_ (hb1.mono (by first | omega | (simp <;> omega))))
   case rest =>
    obtain ⟨wx,rfl⟩:∃ wx:World,wx=wc:=⟨_,rfl⟩
    obtain ⟨D,rfl,y0,y1,hD0,hD1,hbx⟩:=hcut
    have sx:=hbx.size
    obtain ⟨m0,_⟩:=HK1.out wx hbx
    have HBX:Hid (Below wb.heap.size wb wx):=hidP (HBr.out.trans (hbx.mono sr))
    clear hidx hdec W1 W2 LA LB
    have hgo:w.heap.size < wx.heap.size:=by omega
    have HSX:Hid (∀ wX,Below wx.heap.size wx wX->wX.cell? ⟨w.heap.size,0,none⟩=some (.slice (some ⟨g,0,none⟩) L cz)/\wX.cell? ⟨D,0,none⟩=some (.int .i64 K)/\wX.cell? ⟨D,1,none⟩=some (.int .i64 O)):=hidP fun wX hX=>⟨(hX.cell (by simpa using hgo)).trans m0,(hX.cell (by simpa using hD1)).trans y0,(hX.cell (by simpa using hD1)).trans y1⟩
    clear hbx
    have hfr:=HFR.out
    have hidx:=HIX.out ((k:Int)+1)
    rw [HIXX.out] at hidx
    have W1:IntKind.i64.wrap (F * 16)=F * 16:=by rw [IntKind.wrap_i64]; omega
    have W2:IntKind.i64.wrap (F * 16+IX)=F * 16+IX:=by rw [IntKind.wrap_i64]; omega
    by_cases h1:K=1
    ·subst h1
     go_upto_region 6 with fail
     go_region_held3 (fun wX=>wX.cell? ⟨w.heap.size,0,none⟩=some (.slice (some ⟨g,0,none⟩) L cz)/\wX.cell? ⟨D,0,none⟩=some (.int .i64 1)/\wX.cell? ⟨D,1,none⟩=some (.int .i64 O))
      ((refine HSX.out _ ?_; repeat (first | exact Below.refl _ _ | with_reducible refine Below.drew ?_ | refine Below.trans ?_ (hb2.mono (by first | omega | (simp <;> omega))))))
      (first | (go_at_call 39; refine (hfr _).mono ?_; rintro e w2 ⟨rfl,hb2⟩))
     have b2:Below wx.heap.size wx w2:=(Below.refl _ _).drew.trans (hb2.mono (by simp))
     obtain ⟨z0,z1,z2⟩:=HSX.out w2 b2
     have HB2:Hid (Below wb.heap.size wb w2):=hidP (HBX.out.trans (b2.mono (by omega)))
     clear hb2 b2 m0 y0 y1
     by_cases hO:O < nf
     ·have hO':decide (nf<=O)=false:=by simp; omega
      have HRN:Hid (RA=goA zs page (2 - (k+1)) ((k:Int)+1+1) O):=hidP (by rw [HSR.out,if_pos (by first | exact ⟨rfl,hO⟩ | exact ⟨trivial,hO⟩)])
      go_wp2_with fail
      go_roundw
      case rel =>
       exact ⟨k+1,O,by omega,rfl,by push_cast; go_num,hdo,hO,by rw [show ((k+1:Nat):Int)=(k:Int)+1 from rfl]; exact HRN,HB2.out⟩
      case measure=>first | (simp [intOf]; done) | (simp [intOf]; omega)
     ·have hO':decide (nf<=O)=true:=by simp; omega
      have HRN:Hid (RA=F * 16+IX):=hidP (by rw [HSR.out,if_neg (by omega)])
      go_wp2_with fail
      refine (hidx _).mono ?_
      rintro e w3 ⟨rfl,hw3⟩
      obtain rfl:=hw3.symm
      go_wp2_with fail
      go_ret
      rw [HRN.out]
      exact ⟨rfl,HBB.out.trans (HB2.out.mono (by omega))⟩
    ·have k1:(K == 1)=false:=by simpa using h1
     have HRN:Hid (RA=F * 16+IX):=hidP (by rw [HSR.out,if_neg (by omega)])
     go_upto_region 6 with fail
     go_quiet (fail)
     go_wp2_with fail
     refine (hidx _).mono ?_
     rintro e w3 ⟨rfl,hw3⟩
     obtain rfl:=hw3.symm
     go_wp2_with fail
     go_ret
     rw [HRN.out]
     exact ⟨rfl,HBB.out.trans ((bDrewN HBX.out _).mono (by omega))⟩
  ·obtain rfl:k=2:=by omega
   have hidx:=HIX.out 3
   have hib:=HIB.out 3
   generalize hIX:idx page 3=IX at *
   have W1:IntKind.i64.wrap (F * 16)=F * 16:=by rw [IntKind.wrap_i64]; omega
   have W2:IntKind.i64.wrap (F * 16+IX)=F * 16+IX:=by rw [IntKind.wrap_i64]; omega
   have HRN:Hid (RA=F * 16+IX):=hidP (by
    have h1:=HRA.out
    have h2:=HG0.out ((2:Nat)+1:Int) F
    rw [show 2 - 2=0 from rfl,h2] at h1
    exact h1)
   have HBx:Hid (Below wb.heap.size wb wr):=hb
   clear hb HRA
   go_wp2_with fail
   refine (hidx _).mono ?_
   rintro e w3 ⟨rfl,hw3⟩
   obtain rfl:=hw3.symm
   go_wp2_with fail
   go_ret
   rw [HRN.out]
   exact ⟨rfl,HBB.out.trans (HBx.out.mono (by omega))⟩
end Go.Proofs.Ytnmhkgmmpkjjeaa
namespace Go.Proofs.Ytnmhkgmmpkjjeaa
open Go.ChangeShapes Go.WideShapes Go.ChangeAt Go.RowKit
set_option linter.unusedVariables false
set_option maxRecDepth 100000
attribute [local go_sem ↓] Go.wp_at_zero Go.wp_at_succ
def okAt (zs:List Int) (b:Int) (i:Nat):Bool:=(walkZ zs ((b+i) % 4096)).kind == 1
def pageD (cs:List Int) (p:Nat) (zs:List Int):Int :=
 if tkV cs p 8 < 6 then
  match (List.range 4096).find? (okAt zs (tkV cs (p+1) 4096)) with
  | some i=>if tkV cs p 8=5 then ((tkV cs (p+1) 4096+i) % 4096+1) % 4096 else ((tkV cs (p+1) 4096+i) % 4096+tkV cs (p+1) 4096 % 3) % 4096
  | none=>tkV cs (p+1) 4096
 else tkV cs (p+1) 4096
theorem pageD_bd (cs:List Int) (p:Nat) (zs:List Int) (hc:Byt cs) (hp:p<=900000):0<=pageD cs p zs/\pageD cs p zs < 4096:=by
 have h:=tkV_bd cs (p+1) 4096 (by omega) hc (by omega)
 unfold pageD
 split
 ·split
  ·split <;> omega
  ·exact h
 ·exact h
theorem find_hitN {f:Nat->Bool} {n k:Nat} (hk:k < n) (h:∀ j,j < k->f j=false) (h2:f k=true):(List.range n).find? f=some k:=by
 have e1:n=k+((n - k - 1)+1):=by omega
 rw [e1,List.range_add,List.find?_append,List.range_succ_eq_map,List.map_cons,List.find?_cons_of_pos (by simpa using h2)]
 have:(List.range k).find? f=none:=by
  rw [List.find?_eq_none]
  intro x hx
  rw [h x (List.mem_range.1 hx)]; decide
 rw [this]
 rfl
theorem run_field_hit0 (k o p s:Int) (w:World):(Instr.field 32 (.agg #[.int .i64 k,.int .i64 o,.int .i64 p,.int .i64 s]) 0).run Try.prog w=.ok (.int .i64 k) w:=by rfl
set_option maxHeartbeats 2000000 in
theorem drawPage_any (a:Option Addr) (cap:Nat) (cs:List Int) (p g cz:Nat) (zs:List Int) (w:World) (hc:Byt cs) (hp:p<=900000) (hs:BAt w a cs) (hg:CRow w g zs) (hz:zs.length<=1048576) (hzw:∀ i,0<=zs.getD i 0/\zs.getD i 0 < 2 ^ 64) :
  Calls Try.prog 139 #[.slice a cs.length cap,.int .i64 (p:Int),.agg #[.slice (some ⟨g,0,none⟩) zs.length cz]] w fun e w'=>e=.returned (.tuple #[.int .i64 (pageD cs p zs),.int .i64 ((p:Int)+1+1)])/\Below w.heap.size w w':=by
 obtain ⟨wb,hwb⟩:∃ wb,wb=w.alloc (.cells #[.slice (some ⟨g,0,none⟩) zs.length cz] 25):=⟨_,rfl⟩
 have hbb:Below w.heap.size w wb:=by rw [hwb]; exact bal
 have hzb:w.heap.size < wb.heap.size:=by rw [hwb]; simp
 have q0:wb.cell? ⟨w.heap.size,0,none⟩=some (.slice (some ⟨g,0,none⟩) zs.length cz):=by rw [hwb]; simp [go_sem]
 have HQ:Hid (∀ wX,Below wb.heap.size wb wX->wX.cell? ⟨w.heap.size,0,none⟩=some (.slice (some ⟨g,0,none⟩) zs.length cz)/\CRow wX g zs):=hidP fun wX hX=>⟨(hX.cell (by simpa using hzb)).trans q0,(hg.below hbb hg.lt).below hX (by have:=hg.lt; omega)⟩
 have HWK:Hid (∀ (q:Int) wX,Below wb.heap.size wb wX->Calls Try.prog 12 #[.agg #[.slice (some ⟨g,0,none⟩) zs.length cz],.int .i64 q] wX fun e w'=>e=.returned (hitV (walkZ zs q))/\Below wX.heap.size wX w'):=hidP fun q wX hX=>specWalk_any g zs cz q hz hzw wX (HQ.out wX hX).2
 have t1:=take_any a cap cs p 8 wb hc (by omega) (by omega) (hs.below hbb)
 have t2:=fun wX (hX:Below wb.heap.size wb wX)=>take_any a cap cs (p+1) 4096 wX hc (by omega) (by omega) (hs.below (hbb.trans (hX.mono (by omega))))
 rw [show ((p+1:Nat):Int)=(p:Int)+1 from rfl] at t2
 have HT2:Hid _:=t2
 have bA:=tkV_bd cs p 8 (by omega) hc (by omega)
 have bB:=tkV_bd cs (p+1) 4096 (by omega) hc (by omega)
 have HPD:Hid (pageD cs p zs=if tkV cs p 8 < 6 then (match (List.range 4096).find? (okAt zs (tkV cs (p+1) 4096)) with
  | some i=>if tkV cs p 8=5 then ((tkV cs (p+1) 4096+i) % 4096+1) % 4096 else ((tkV cs (p+1) 4096+i) % 4096+tkV cs (p+1) 4096 % 3) % 4096
  | none=>tkV cs (p+1) 4096) else tkV cs (p+1) 4096):=hidP rfl
 generalize pageD cs p zs=PD at *
 generalize tkV cs p 8=A at *
 generalize tkV cs (p+1) 4096=B at *
 have HWB:Hid (wb=_):=hwb
 have HBB:Hid (Below w.heap.size w wb):=hbb
 rw [hwb] at t1
 clear hc hs hg hzw hwb hbb q0 t2
 go_enter Try.func139,Try.ntmps139
 go_wp2_with fail
 refine t1.mono ?_
 rintro e w1 ⟨rfl,hb1'⟩
 have hb1:Below wb.heap.size wb w1:=by rw [HWB.out]; exact hb1'
 have s1:=hb1.size
 have ht:=HT2.out w1 hb1
 have HB1:Hid (Below _ wb w1):=hb1
 clear t1 hb1' hb1
 go_wp2_with fail
 refine ht.mono ?_
 rintro e w2 ⟨rfl,hb2'⟩
 have hb2:Below wb.heap.size wb w2:=HB1.out.trans (hb2'.mono s1)
 have HB2:Hid (Below _ wb w2):=hb2
 have HE2:Hid (Below w.heap.size w w2):=hidP (HBB.out.trans (hb2.mono (by omega)))
 clear ht hb2' hb2
 by_cases h6:A < 6
 ·have h6b:decide (A < 6)=true:=by simpa using h6
  go_wp2_with fail
  go_loopw [10] (fun iv wr=>∃ k:Nat,k<=4096/\iv=.int .i64 (k:Int)/\Hid (∀ j,j < k->okAt zs B j=false)/\Below wb.heap.size wb wr) (fun iv _=>4096 - (intOf iv).toNat)
  case atStart=>exact ⟨0,by omega,rfl,hidP fun j hj=>absurd hj (by omega),HB2.out⟩
  case round =>
   obtain ⟨k,hk,rfl,HJ,hb⟩:=hrel
   have sr:=hb.size
   by_cases hlt:k < 4096
   ·have K1:(k:Int) < 4096:=by omega
    obtain ⟨Q,hQ⟩:∃ Q,(B+(k:Int)) % 4096=Q:=⟨_,rfl⟩
    have eQ:(B+(k:Int)).tmod 4096=Q:=by rw [Int.tmod_eq_emod_of_nonneg (by omega)]; exact hQ
    have q0:0<=Q/\Q < 4096:=by omega
    obtain ⟨y0,_⟩:=HQ.out wr hb
    have hw:=HWK.out Q wr hb
    have HOK:Hid (okAt zs B k=((walkZ zs Q).kind == 1)):=hidP (by unfold okAt; rw [hQ])
    unfold hitV at hw
    generalize (walkZ zs Q).kind=K at *
    generalize (walkZ zs Q).out=K2 at *
    generalize (walkZ zs Q).perm=K3 at *
    generalize (walkZ zs Q).size=K4 at *
    have hfl:=run_field_hit0
    have HBk:Hid (Below _ wb wr):=hb
    clear hb
    go_wp2_with fail
    refine hw.mono ?_
    rintro e w3 ⟨rfl,hb3'⟩
    have HB3:Hid (Below wb.heap.size wb w3):=hidP (HBk.out.trans (hb3'.mono sr))
    have HE3:Hid (Below w.heap.size w w3):=hidP (HBB.out.trans (HB3.out.mono (by omega)))
    clear hw hb3' y0
    by_cases hK:K=1
    ·subst hK
     have HF:Hid ((List.range 4096).find? (okAt zs B)=some k):=hidP (find_hitN hlt HJ.out (by rw [HOK.out]; rfl))
     by_cases h5:A=5
     ·have h5b:(A == 5)=true:=by simpa using h5
      have eR:(Q+1).tmod 4096=(Q+1) % 4096:=Int.tmod_eq_emod_of_nonneg (by omega)
      have HV:Hid (PD=(Q+1) % 4096):=hidP (by rw [HPD.out,if_pos h6,HF.out]; dsimp only; rw [if_pos h5,hQ])
      clear h5
      go_wp2_with fail
      rw [HV.out]
      go_ret2
      exact ⟨rfl,HE3.out⟩
     ·have h5b:(A == 5)=false:=by simpa using h5
      have e3:B.tmod 3=B % 3:=Int.tmod_eq_emod_of_nonneg (by omega)
      have eR:(Q+B % 3).tmod 4096=(Q+B % 3) % 4096:=Int.tmod_eq_emod_of_nonneg (by omega)
      have HV:Hid (PD=(Q+B % 3) % 4096):=hidP (by rw [HPD.out,if_pos h6,HF.out]; dsimp only; rw [if_neg h5,hQ])
      go_wp2_with fail
      rw [HV.out]
      go_ret2
      exact ⟨rfl,HE3.out⟩
    ·have hKb:(K == 1)=false:=by simpa using hK
     have HN:Hid (∀ j,j < k+1->okAt zs B j=false):=hidP fun j hj=>by
      by_cases e:j=k
      ·rw [e,HOK.out]; exact hKb
      ·exact HJ.out j (by omega)
     go_wp2_with fail
     go_roundw
     case rel=>exact ⟨k+1,by omega,by go_num,HN,HB3.out⟩
     case measure=>first | (simp [intOf]; done) | (simp [intOf]; omega)
   ·have HN:Hid ((List.range 4096).find? (okAt zs B)=none):=hidP (by
     rw [List.find?_eq_none]
     intro x hx
     rw [HJ.out x (by have:=List.mem_range.1 hx; omega)]; decide)
    have HV:Hid (PD=B):=hidP (by rw [HPD.out,if_pos h6,HN.out])
    have K1:¬ (k:Int) < 4096:=by omega
    have HE4:Hid (Below w.heap.size w wr):=hidP (HBB.out.trans (hb.mono (by omega)))
    clear hb
    go_wp2_with fail
    rw [HV.out]
    go_ret2
    exact ⟨rfl,HE4.out⟩
 ·have h6b:decide (A < 6)=false:=by simpa using h6
  have HV:Hid (PD=B):=hidP (by rw [HPD.out,if_neg h6])
  go_wp2_with fail
  rw [HV.out]
  go_ret2
  exact ⟨rfl,HE2.out⟩
end Go.Proofs.Ytnmhkgmmpkjjeaa
