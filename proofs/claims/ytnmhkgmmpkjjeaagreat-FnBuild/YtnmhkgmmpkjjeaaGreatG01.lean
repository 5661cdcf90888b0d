import Derived.Test.YtnmhkgmmpkjjeaaGreatRows
import Derived.WalkKit
import Derived.ProofKit
import Derived.OpenShut
import Derived.Below
import Derived.Deep.OwnRows
import Derived.Deep.QuietTactic
import Derived.BigQuiet
import Derived.Test.YtnmhkgmmpkjjeaaGreatG00
import Derived.Laws.Concat
import Derived.Laws.DeepStrings4
namespace Go.Proofs.YtnmhkgmmpkjjeaaGreat
open Go.ChangeShapes Go.WideShapes Go.ChangeAt Go.RowKit
set_option linter.unusedVariables false
theorem info_u64:(Tryz.prog.info? 75).map (fun i=>(i.zero,i.size,i.bytes))=some (some (.int .u64 0),1,8):=by kernel_rfl
def IRow (w:World) (g:Nat) (zs:List Int):Prop:=w.rowIs g 75 zs.length (fun i=>.int .u64 (zs.getD i 0))
theorem IRow.cell {w:World} {g:Nat} {zs:List Int} (h:IRow w g zs) {i:Nat} (hi:i < zs.length):w.cell? ⟨g,i,none⟩=some (.int .u64 (zs.getD i 0)):=World.rowIs.cell h hi
theorem IRow.below {w w':World} {g B:Nat} {zs:List Int} (h:IRow w g zs) (hb:Below B w w') (hg:g < B):IRow w' g zs:=World.rowIs.of_block h (hb.block g hg)
theorem IRow.lt {w:World} {g:Nat} {zs:List Int} (h:IRow w g zs):g < w.heap.size:=World.rowIs.lt h
theorem bDrewN {B:Nat} {a w:World} (h:Below B a w) (n:Nat):Below B a (w.drewN n):=⟨h.os,h.tape,h.output,h.size,h.block⟩
end Go.Proofs.YtnmhkgmmpkjjeaaGreat
namespace Go.Proofs.YtnmhkgmmpkjjeaaGreat
open Go.ChangeShapes Go.WideShapes Go.ChangeAt Go.RowKit
set_option linter.unusedVariables false
set_option maxRecDepth 100000
theorem hidP {p:Prop} (h:p):Hid p:=h
theorem erow_push {α:Type} {E:Elt α} {w:World} {B n:Nat} {v:Value} {xs:List α} {x:α} (hn:xs.length=n) (h:w.ownsRow B E.T E.sz v (n+1) (ecells E xs ++ E.enc x)):ERow E w B v (xs ++ [x]):=by
 unfold ERow
 rw [ecells_append,List.length_append,List.length_singleton,hn]
 have e:ecells E [x]=E.enc x:=by simp [ecells]
 rw [e]
 exact h
structure LS {α:Type} (E:Elt α) (w:World) (wr:World) (vv:Value) (l:List α):Prop where
 row:∃ g c:Nat,vv=.slice (some ⟨g,0,none⟩) l.length c/\ERow E wr w.heap.size (.slice (some ⟨g,0,none⟩) l.length c) l
 bel:Below w.heap.size w wr
theorem LS.below {α:Type} {E:Elt α} {w wr w1:World} {vv:Value} {l:List α} (h:LS E w wr vv l) (hb:Below wr.heap.size wr w1):LS E w w1 vv l:=by
 obtain ⟨⟨g,c,e,hr⟩,hbel⟩:=h
 exact ⟨⟨g,c,e,hr.below hb⟩,hbel.trans (hb.mono hbel.size)⟩
theorem LS.push {α:Type} {E:Elt α} {w w1 wn:World} {g c g1 c1:Nat} {l:List α} {x:α} {o:Obj} (hbel:Below w.heap.size w w1) (hr:ERow E w1 w.heap.size (.slice (some ⟨g,0,none⟩) l.length c) l) (hown:wn.ownsRow w.heap.size E.T E.sz (.slice (some ⟨g1,0,none⟩) (l.length+1) c1) (l.length+1) (ecells E l ++ E.enc x)) (hgrow:(w1.alloc o).grownBy wn (Value.ownBlock (.slice (some ⟨g,0,none⟩) l.length c))) :
  LS E w wn (.slice (some ⟨g1,0,none⟩) (l.length+1) c1) (l ++ [x]):=by
 refine ⟨⟨g1,c1,by simp,?_⟩,?_⟩
 ·have:=erow_push rfl hown
  rw [List.length_append,List.length_singleton]
  exact this
 ·exact (hbel.alloc hbel.size _).grown hgrow (by have:=hbel.size; simp; omega) (fun q hq=>(hr.own q hq).1)
theorem LS.new {α:Type} (E:Elt α) (w:World):LS E w (w.alloc (.cells #[] E.T)) (.slice (some ⟨w.heap.size,0,none⟩) 0 0) []:=⟨⟨w.heap.size,0,rfl,ERow.empty E w w.heap.size (Nat.le_refl _)⟩,bal⟩
end Go.Proofs.YtnmhkgmmpkjjeaaGreat
namespace Go.Proofs.YtnmhkgmmpkjjeaaGreat
set_option linter.unusedVariables false
abbrev Txt:=List UInt8
def bs (l:Txt):ByteArray:=⟨l.toArray⟩
theorem bs_size (l:Txt):(bs l).size=l.length:=by show l.toArray.size=_; simp
theorem bs_get (l:Txt) (i:Nat) (h:i < (bs l).size):(bs l)[i]'h=l.getD i 0:=by
 have hl:i < l.length:=by rw [<- bs_size]; exact h
 simp only [List.getD,List.getElem?_eq_getElem hl,Option.getD_some]
 rfl
theorem bs_app (a b:Txt):bs a ++ bs b=bs (a ++ b):=by unfold bs; rw [ByteArray.mk_append_mk]
theorem bs_mk (a:Array UInt8):ByteArray.mk a=bs a.toList:=rfl
def cutL (l:Txt) (i j:Nat):Txt:=(l.take j).drop i
theorem bs_cut (l:Txt) (i j:Nat):(bs l).extract i j=bs (cutL l i j):=by
 unfold bs cutL
 rw [ByteArray.extract_mk]
 congr 1
 simp [List.drop_take]
theorem bs_list (l:Txt):(bs l).toList=l:=by
 rw [ByteArray.toList_eq]; rfl
def isLow (c:UInt8):Bool:=decide (97<=c.toNat) && decide (c.toNat<=122)
def isDig (c:UInt8):Bool:=decide (48<=c.toNat) && decide (c.toNat<=57)
def isWd (c:UInt8):Bool:=isLow c || isDig c || decide (c.toNat=95)
def okB (c:UInt8):Bool:=isWd c || decide (c.toNat=32) || decide (c.toNat=10) || decide (c.toNat=59)
def insN (b:Bool) (c:UInt8):Bool:=(b || decide (c.toNat=35)) && !decide (c.toNat=10)
def blankL:Bool->Txt->Txt
 | _,[]=>[]
 | b,c :: r=>(if insN b c then 32 else c) :: blankL (insN b c) r
def badL:Nat->Txt->Int
 | _,[]=>-1
 | k,c :: r=>if okB c then badL (k+1) r else k
def flush (w:Txt):List Txt:=if w=[] then [] else [w]
def tokL:Txt->Txt->List Txt
 | w,[]=>flush w
 | w,c :: r=>if isWd c then tokL (w ++ [c]) r else flush w ++ ((if decide (c.toNat=59) then [[59]] else []) ++ tokL [] r)
theorem drop_at {l:Txt} {k:Nat} (h:k < l.length):l.drop k=l.getD k 0 :: l.drop (k+1):=by
 rw [List.drop_eq_getElem_cons h]
 simp [List.getD,List.getElem?_eq_getElem h]
theorem cut_one {l:Txt} {k:Nat} (h:k < l.length):cutL l k (k+1)=[l.getD k 0]:=by
 unfold cutL
 rw [List.drop_take,show k+1 - k=1 by omega,drop_at h]
 rfl
def cAt (l:Txt) (k:Nat):UInt8:=l.getD k 0
theorem drop_cAt {l:Txt} {k:Nat} (h:k < l.length):l.drop k=cAt l k :: l.drop (k+1):=drop_at h
theorem cut_cAt {l:Txt} {k:Nat} (h:k < l.length):cutL l k (k+1)=[cAt l k]:=cut_one h
theorem bs_cAt (l:Txt) (i:Nat) (h:i < (bs l).size):(bs l)[i]'h=cAt l i:=bs_get l i h
end Go.Proofs.YtnmhkgmmpkjjeaaGreat
namespace Go.Proofs.YtnmhkgmmpkjjeaaGreat
open Go.ChangeShapes Go.WideShapes Go.ChangeAt Go.RowKit
set_option linter.unusedVariables false
set_option maxRecDepth 100000
attribute [local go_sem] bs_size bs_cAt bs_app bs_mk bs_cut bs_list
def digs:Txt:=[48,49,50,51,52,53,54,55,56,57]
def showL (n:Nat):Txt:=if n < 10 then cutL digs n (n+1) else showL (n / 10) ++ cutL digs (n % 10) (n % 10+1)
theorem showL_len (n:Nat):(showL n).length<=n+1:=by
 induction n using Nat.strongRecOn with
 | _ n ih =>
  unfold showL
  have hc:∀ i,(cutL digs i (i+1)).length<=1:=fun i=>by
   unfold cutL
   rw [List.length_drop,List.length_take]
   omega
  split
  ·have:=hc n; omega
  ·have:=ih (n / 10) (by omega)
   have:=hc (n % 10)
   rw [List.length_append]
   omega
set_option maxHeartbeats 1000000 in
theorem l4Show_any (n:Nat) (hn:n<=1000000000):∀ w,Calls Tryz.prog 207 #[.int .i64 (n:Int)] w fun e w'=>e=.returned (.string (bs (showL n)))/\Below w.heap.size w w':=by
 induction n using Nat.strongRecOn with
 | _ n ih =>
  intro w
  have hlen:digs.length=10:=rfl
  by_cases h:n < 10
  ·have e:showL n=cutL digs n (n+1):=by unfold showL; rw [if_pos h]
   rw [e]
   have h':(n:Int) < 10:=by omega
   have L0:(0:Int)<=(n:Int):=by omega
   have L1:(n:Int)<=(n:Int)+1:=by omega
   have L2:(n:Int)+1<=10:=by omega
   have HD:Hid (digs=[48,49,50,51,52,53,54,55,56,57]):=hidP rfl
   clear ih e
   go_enter Tryz.func207,Tryz.ntmps207
   go_wp2_with fail
   go_ret
   refine ⟨?_,Below.refl _ _⟩
   first | rfl | (rw [HD.out]; rfl)
  ·have e:showL n=showL (n / 10) ++ cutL digs (n % 10) (n % 10+1):=by conv=>lhs; unfold showL; rw [if_neg h]
   rw [e]
   have h':¬ (n:Int) < 10:=by omega
   have hi:=ih (n / 10) (by omega) (by omega)
   obtain ⟨Q,hQ⟩:∃ Q,n / 10=Q:=⟨_,rfl⟩
   obtain ⟨R,hR⟩:∃ R,n % 10=R:=⟨_,rfl⟩
   have E1:(n:Int).tdiv 10=(Q:Int):=by rw [Int.tdiv_eq_ediv_of_nonneg (by omega)]; omega
   have E1b:(n:Int) / 10=(Q:Int):=by omega
   have E2:(n:Int).tmod 10=(R:Int):=by rw [Int.tmod_eq_emod_of_nonneg (by omega)]; omega
   have E2b:(n:Int) % 10=(R:Int):=by omega
   have hR1:R < 10:=by omega
   have hQ1:Q<=100000000:=by omega
   have L0:(0:Int)<=(R:Int):=by omega
   have L1:(R:Int)<=(R:Int)+1:=by omega
   have L2:(R:Int)+1<=10:=by omega
   have W1:IntKind.i64.wrap (Q:Int)=(Q:Int):=by rw [IntKind.wrap_i64]; omega
   have W2:IntKind.i64.wrap ((R:Int)+1)=(R:Int)+1:=by rw [IntKind.wrap_i64]; omega
   rw [hQ] at hi ⊢
   rw [hR]
   have hS:=showL_len Q
   generalize showL Q=SQ at *
   have hC:(cutL [48,49,50,51,52,53,54,55,56,57] R (R+1)).length<=1:=by
    unfold cutL
    rw [List.length_drop,List.length_take]
    omega
   have hcat:¬ 9223372036854775807 < List.length SQ+List.length (cutL [48,49,50,51,52,53,54,55,56,57] R (R+1)):=by omega
   clear ih e hQ hR h
   go_enter Tryz.func207,Tryz.ntmps207
   go_wp2_with fail
   refine wp_region_held_drew (S:=(fun _=>True)) (by kernel_rfl) trivial (fun hHeld=>?_)
   refine tk 0 ?_
   refine tk 1 ?_
   refine tk 3 ?_
   refine tk 4 ?_
   refine tk 5 ?_
   refine tk 6 ?_
   refine tk 7 ?_
   refine tk 8 ?_
   refine wpAnyH_ready (rs:=[2]) (by kernel_rfl) (by simp) ?_
   refine AllReadyH.cons rfl (fun K hK=>?_) AllReadyH.nil
   go_simp
   go_at_call 207
   refine (hi _).mono ?_
   rintro e w1 ⟨rfl,hb1⟩
   have hB1:Below w.heap.size w w1:=(Below.refl _ _).drew.trans (hb1.mono (by simp))
   go_wp2_with fail
   refine hK.out _ _ trivial (fun hHeld2=>?_)
   clear hK K
   refine tk 9 ?_
   refine tk 10 ?_
   refine wpAnyH_done (by kernel_rfl) ?_ _
   go_wp2_with fail
   go_ret
   refine ⟨?_,hB1⟩
   first | rfl | simp [digs]
end Go.Proofs.YtnmhkgmmpkjjeaaGreat
namespace Go.Proofs.YtnmhkgmmpkjjeaaGreat
open Go.ChangeShapes Go.WideShapes Go.ChangeAt Go.RowKit
set_option linter.unusedVariables false
set_option maxRecDepth 100000
def eTok:Elt Txt:=⟨93,1,fun x=>[.string (bs x)],[],by omega,fun _=>rfl⟩
theorem infoTok:(Tryz.prog.info? 93).map (fun i=>(i.zero,i.size,i.bytes))=some (some (.agg #[.string (bs [])]),1,16):=by kernel_rfl
theorem eTok_cells {w:World} {b g c:Nat} {xs:List Txt} (h:ERow eTok w b (.slice (some ⟨g,0,none⟩) xs.length c) xs) (i:Nat) (hi:i < xs.length):g < w.heap.size/\w.cell? ⟨g,i,none⟩=some (.string (bs (eAt eTok xs i))):=by
 obtain ⟨a,c',e,h1⟩:=h.form
 obtain ⟨g',N,f,e2,_,hr,hN,hf⟩:=h1 (by omega)
 have hN':xs.length * 1<=N:=hN
 simp only [Value.slice.injEq] at e
 obtain ⟨e,_,_⟩:=e
 rw [e2] at e
 simp only [Option.some.injEq,Addr.mk.injEq,and_true] at e
 subst e
 refine ⟨hr.lt,?_⟩
 have h0:=hf i hi 0 (by decide)
 have h1:i * eTok.sz+0=i:=by show i * 1+0=i; omega
 rw [h1] at h0
 rw [hr.cell (i:=i) (by omega),h0]
 rfl
end Go.Proofs.YtnmhkgmmpkjjeaaGreat
namespace Go.Proofs.YtnmhkgmmpkjjeaaGreat
open Go.ChangeShapes Go.WideShapes Go.ChangeAt Go.RowKit
set_option linter.unusedVariables false
set_option maxRecDepth 100000
attribute [local go_sem ↓] Go.wp_at_zero Go.wp_at_succ
attribute [local go_sem] bs_size bs_cAt bs_app bs_mk bs_cut bs_list
theorem l4WordByte_any (c:UInt8) (w:World):Calls Tryz.prog 96 #[.int .u8 c.toNat] w fun e w'=>e=.returned (.bool (isWd c))/\w'=w:=by
 unfold isWd isLow isDig
 obtain ⟨n,hn⟩:∃ n:Nat,c.toNat=n:=⟨_,rfl⟩
 rw [hn]
 clear hn
 go_enter Tryz.func96,Tryz.ntmps96
 go_wp2
 all_goals
  go_ret
  refine ⟨congrArg (fun b=>Ending.returned (Value.bool b)) ?_,rfl⟩
  rw [Bool.eq_iff_iff]
  simp
  omega
theorem l4Blank_any (l:Txt) (w:World) (hle:l.length<=20000):Calls Tryz.prog 33 #[.string (bs l)] w fun e w'=>e=.returned (.string (bs (blankL false l)))/\w'=w:=by
 go_enter Tryz.func33,Tryz.ntmps33
 go_wp2_with fail
 go_loopw [3,4,5] (fun ov bv iv wr=>∃ (k:Nat) (O:Txt) (B:Bool),k<=l.length/\iv=.int .i64 k/\bv=.bool B/\ov=.string (bs O)/\Hid (O ++ blankL B (l.drop k)=blankL false l)/\Hid (O.length=k)/\wr=w) (fun _ _ iv _=>l.length - (intOf iv).toNat)
 case atStart=>exact ⟨0,[],false,Nat.zero_le _,rfl,rfl,rfl,rfl,rfl,rfl⟩
 case round =>
  obtain ⟨k,O,B,hk,rfl,rfl,rfl,HO,HK,rfl⟩:=hrel
  by_cases hlt:k < l.length
  ·have HD:Hid _:=drop_cAt hlt
   have hcut:=cut_cAt hlt
   obtain ⟨c,hc⟩:∃ c,cAt l k=c:=⟨_,rfl⟩
   rw [hc] at HD hcut
   have hO:O.length < 9223372036854775807:=by have:=HK.out; omega
   have L1:(0:Int)<=(k:Int):=by omega
   have L2:(k:Int) < (l.length:Int):=by omega
   have L3:(0:Int)<=(k:Int)+1:=by omega
   have L4:(k:Int)+1<=(l.length:Int):=by omega
   by_cases h35:c.toNat=35
   ·have e1:((c.toNat:Int) == 35)=true:=by simp [h35]
    have e2:((c.toNat:Int) == 10)=false:=by simp [h35]
    have HN:Hid (insN B c=true):=hidP <| by unfold insN; simp [h35]
    clear h35
    go_wp2_with fail
    go_roundw
    case rel=>exact ⟨k+1,O ++ [32],true,by omega,by go_num,rfl,rfl,hidP <| by rw [<- HO.out,HD.out]; simp [blankL,HN.out],hidP <| by have:=HK.out; simp; omega,by first | rfl | trivial⟩
    case measure=>simp [intOf]; omega
   ·have e1:((c.toNat:Int) == 35)=false:=by simp; omega
    by_cases h10:c.toNat=10
    ·have e2:((c.toNat:Int) == 10)=true:=by simp [h10]
     have HN:Hid (insN B c=false):=hidP <| by unfold insN; simp [h10]
     clear h35 h10
     go_wp2_with fail
     go_roundw
     case rel=>exact ⟨k+1,O ++ [c],false,by omega,by go_num,rfl,rfl,hidP <| by rw [<- HO.out,HD.out]; simp [blankL,HN.out],hidP <| by have:=HK.out; simp; omega,by first | rfl | trivial⟩
     case measure=>simp [intOf]; omega
    ·have e2:((c.toNat:Int) == 10)=false:=by simp; omega
     have HN:Hid (insN B c=B):=hidP <| by unfold insN; simp [h35,h10]
     clear h35 h10
     cases B
     ·go_wp2_with fail
      go_roundw
      case rel=>exact ⟨k+1,O ++ [c],false,by omega,by go_num,rfl,rfl,hidP <| by rw [<- HO.out,HD.out]; simp [blankL,HN.out],hidP <| by have:=HK.out; simp; omega,by first | rfl | trivial⟩
      case measure=>simp [intOf]; omega
     ·go_wp2_with fail
      go_roundw
      case rel=>exact ⟨k+1,O ++ [32],true,by omega,by go_num,rfl,rfl,hidP <| by rw [<- HO.out,HD.out]; simp [blankL,HN.out],hidP <| by have:=HK.out; simp; omega,by first | rfl | trivial⟩
      case measure=>simp [intOf]; omega
  ·have HE:Hid (blankL false l=O):=hidP <| by
    rw [<- HO.out,List.drop_eq_nil_of_le (by omega)]; simp [blankL]
   go_wp2_with fail
   go_ret
   exact ⟨by rw [HE.out]; rfl,rfl⟩
theorem l4Bad_any (l:Txt) (w:World) (hle:l.length<=20000):Calls Tryz.prog 34 #[.string (bs l)] w fun e w'=>e=.returned (.int .i64 (badL 0 l))/\w'=w:=by
 go_enter Tryz.func34,Tryz.ntmps34
 go_wp2_with fail
 go_loopw [3] (fun iv wr=>∃ (k:Nat),k<=l.length/\iv=.int .i64 k/\Hid (badL k (l.drop k)=badL 0 l)/\wr=w) (fun iv _=>l.length - (intOf iv).toNat)
 case atStart=>exact ⟨0,Nat.zero_le _,rfl,rfl,rfl⟩
 case round =>
  obtain ⟨k,hk,rfl,HO,rfl⟩:=hrel
  by_cases hlt:k < l.length
  ·have HD:Hid _:=drop_cAt hlt
   obtain ⟨c,hc⟩:∃ c,cAt l k=c:=⟨_,rfl⟩
   rw [hc] at HD
   have L1:(0:Int)<=(k:Int):=by omega
   have L2:(k:Int) < (l.length:Int):=by omega
   cases hw:isWd c
   ·have HB1:Hid (okB c=false->badL 0 l=k):=hidP <| fun h=>by rw [<- HO.out,HD.out]; simp [badL,h]
    have HB2:Hid (okB c=true->badL (k+1) (l.drop (k+1))=badL 0 l):=hidP <| fun h=>by rw [<- HO.out,HD.out]; simp [badL,h]
    have HW:Hid (isWd c=false):=hw
    by_cases h1:c.toNat=32
    ·have HR:Hid _:=HB2.out (by unfold okB; simp [h1])
     have e1:((c.toNat:Int) != 32)=false:=by simp [h1]
     clear h1
     go_wp2_with (go_at_call 96; refine (l4WordByte_any c _).mono ?_; rintro e w' ⟨rfl,rfl⟩)
     go_roundw
     case rel=>exact ⟨k+1,by omega,by go_num,HR,by first | rfl | trivial⟩
     case measure=>simp [intOf]; omega
    ·have e1:((c.toNat:Int) != 32)=true:=by simp; omega
     by_cases h2:c.toNat=10
     ·have HR:Hid _:=HB2.out (by unfold okB; simp [h2])
      have e2:((c.toNat:Int) != 10)=false:=by simp [h2]
      clear h1 h2
      go_wp2_with (go_at_call 96; refine (l4WordByte_any c _).mono ?_; rintro e w' ⟨rfl,rfl⟩)
      go_roundw
      case rel=>exact ⟨k+1,by omega,by go_num,HR,by first | rfl | trivial⟩
      case measure=>simp [intOf]; omega
     ·have e2:((c.toNat:Int) != 10)=true:=by simp; omega
      by_cases h3:c.toNat=59
      ·have HR:Hid _:=HB2.out (by unfold okB; simp [h3])
       have e3:((c.toNat:Int) != 59)=false:=by simp [h3]
       clear h1 h2 h3
       go_wp2_with (go_at_call 96; refine (l4WordByte_any c _).mono ?_; rintro e w' ⟨rfl,rfl⟩)
       go_roundw
       case rel=>exact ⟨k+1,by omega,by go_num,HR,by first | rfl | trivial⟩
       case measure=>simp [intOf]; omega
      ·have e3:((c.toNat:Int) != 59)=true:=by simp; omega
       have HR:Hid _:=HB1.out (by unfold okB; simp [h1,h2,h3,HW.out])
       clear h1 h2 h3
       go_wp2_with (go_at_call 96; refine (l4WordByte_any c _).mono ?_; rintro e w' ⟨rfl,rfl⟩)
       go_ret
       exact ⟨by rw [HR.out]; rfl,rfl⟩
   ·have HR:Hid (badL (k+1) (l.drop (k+1))=badL 0 l):=hidP <| by rw [<- HO.out,HD.out]; simp [badL,okB,hw]
    go_wp2_with (go_at_call 96; refine (l4WordByte_any c _).mono ?_; rintro e w' ⟨rfl,rfl⟩)
    go_roundw
    case rel=>exact ⟨k+1,by omega,by go_num,HR,by first | rfl | trivial⟩
    case measure=>simp [intOf]; omega
  ·have HE:Hid (badL 0 l=-1):=hidP <| by
    rw [<- HO.out,List.drop_eq_nil_of_le (by omega)]; simp [badL]
   go_wp2_with fail
   go_ret
   exact ⟨by rw [HE.out]; rfl,rfl⟩
end Go.Proofs.YtnmhkgmmpkjjeaaGreat
namespace Go.Proofs.YtnmhkgmmpkjjeaaGreat
open Go.ChangeShapes Go.WideShapes Go.ChangeAt Go.RowKit
set_option linter.unusedVariables false
def Src (w:World) (v:Value) (zs:List Int):Prop :=
 ∃ (a:Option Addr) (cap:Nat),v=.slice a zs.length cap/\(0 < zs.length->∃ b o,a=some ⟨b,o,none⟩/\b < w.heap.size/\∀ i,i < zs.length->w.cell? ⟨b,o+i,none⟩=some (.int .u64 (zs.getD i 0)))
end Go.Proofs.YtnmhkgmmpkjjeaaGreat
namespace Go.Proofs.YtnmhkgmmpkjjeaaGreat
open Go.ChangeShapes Go.WideShapes Go.ChangeAt Go.RowKit
set_option linter.unusedVariables false
attribute [local go_sem ↓] Go.wp_at_zero Go.wp_at_succ
def eWord:Elt Int:=⟨75,1,fun x=>[.int .u64 x],0,by omega,fun _=>rfl⟩
theorem IRow.erow {w:World} {g base:Nat} {zs:List Int} (h:IRow w g zs) (hb:base<=g) (hn:zs.length<=1048576):ERow eWord w base (.slice (some ⟨g,0,none⟩) zs.length zs.length) zs:=by
 refine ERow.of_row (cap:=zs.length) rfl hb h (by simp [eWord]) (Nat.le_refl _) (by unfold maxLen; omega) ?_
 intro i hi j hj
 have:j=0:=by simp [eWord] at hj; omega
 subst this
 simp [eCell,eWord,eAt]
theorem eWord_form {w:World} {base:Nat} {v:Value} {zs:List Int} (h:ERow eWord w base v zs):∃ a cap,v=.slice a zs.length cap/\(0 < zs.length->∃ g N f,a=some ⟨g,0,none⟩/\base<=g/\w.rowIs g 75 N f/\zs.length<=N/\∀ i,i < zs.length->f i=.int .u64 (zs.getD i 0)):=by
 obtain ⟨a,c,e,ha⟩:=h.form
 refine ⟨a,c,e,fun h0=>?_⟩
 obtain ⟨g,N,f,p,q,r,s,t⟩:=ha h0
 refine ⟨g,N,f,p,q,r,by simpa [eWord] using s,fun i hi=>?_⟩
 have:=t i hi 0 (by decide)
 simpa [eCell,eWord,eAt] using this
def markWord (s:Int) (i _j:Nat):Value:=.int .u64 (s+i)
structure WriteE where
 addr:Int
 word:Int
def eWrite:Elt WriteE:=⟨188,2,fun x=>[.int .i64 x.addr,.int .u64 x.word],⟨0,0⟩,by omega,fun _=>rfl⟩
def markWrite (s:Int) (i j:Nat):Value :=
 match j with
 | 0=>.int .i64 (s+i * 2)
 | 1=>.int .u64 (s+i * 2+1)
 | _=>.bool false
structure TlbE where
 page:Int
 size:Int
 out:Int
 perm:Int
 doom:Bool
def eTlb:Elt TlbE:=⟨60,5,fun x=>[.int .i64 x.page,.int .i64 x.size,.int .i64 x.out,.int .i64 x.perm,.bool x.doom],⟨0,0,0,0,false⟩,by omega,fun _=>rfl⟩
def markTlb (s:Int) (i j:Nat):Value :=
 match j with
 | 0=>.int .i64 (s+i * 5)
 | 1=>.int .i64 (s+i * 5+1)
 | 2=>.int .i64 (s+i * 5+1+1)
 | 3=>.int .i64 (s+i * 5+1+1+1)
 | 4=>.bool ((s+i * 5+1+1+1+1) % 3 == 0)
 | _=>.bool false
structure WcE where
 level:Int
 page:Int
 table:Int
 doom:Bool
def eWc:Elt WcE:=⟨65,4,fun x=>[.int .i64 x.level,.int .i64 x.page,.int .i64 x.table,.bool x.doom],⟨0,0,0,false⟩,by omega,fun _=>rfl⟩
def markWc (s:Int) (i j:Nat):Value :=
 match j with
 | 0=>.int .i64 (s+i * 4)
 | 1=>.int .i64 (s+i * 4+1)
 | 2=>.int .i64 (s+i * 4+1+1)
 | 3=>.bool ((s+i * 4+1+1+1) % 3 == 0)
 | _=>.bool false
structure Mach where
 mem:List Int
 pend:List WriteE
 tlb:List TlbE
 wc:List WcE
structure MV where
 w:Value
 p:Value
 t:Value
 c:Value
def MV.agg (m:MV):Value:=.agg #[m.w,m.p,m.t,m.c]
def MV.owns (m:MV) (k:Nat):Prop:=m.w.ownBlock=some k\/m.p.ownBlock=some k\/m.t.ownBlock=some k\/m.c.ownBlock=some k
def MV.apart (m:MV):Prop:=∀ k,(m.w.ownBlock=some k->m.p.ownBlock ≠ some k/\m.t.ownBlock ≠ some k/\m.c.ownBlock ≠ some k)/\(m.p.ownBlock=some k->m.t.ownBlock ≠ some k/\m.c.ownBlock ≠ some k)/\(m.t.ownBlock=some k->m.c.ownBlock ≠ some k)
structure MRow (W:World) (base:Nat) (m:MV) (M:Mach):Prop where
 w:ERow eWord W base m.w M.mem
 p:ERow eWrite W base m.p M.pend
 t:ERow eTlb W base m.t M.tlb
 c:ERow eWc W base m.c M.wc
structure MSrc (W:World) (m:MV) (M:Mach):Prop where
 w:Src W m.w M.mem
 p:ESrc eWrite W m.p M.pend
 t:ESrc eTlb W m.t M.tlb
 c:ESrc eWc W m.c M.wc
structure MHas (W:World) (m:MV) (M:Mach) (s:Int):Prop where
 w:EHas eWord W m.w M.mem.length (markWord s)
 p:EHas eWrite W m.p M.pend.length (markWrite (s+M.mem.length))
 t:EHas eTlb W m.t M.tlb.length (markTlb (s+M.mem.length+M.pend.length * 2))
 c:EHas eWc W m.c M.wc.length (markWc (s+M.mem.length+M.pend.length * 2+M.tlb.length * 5))
structure Mach.Small (M:Mach):Prop where
 w:M.mem.length<=1048576
 p:M.pend.length<=1048576
 t:M.tlb.length<=1048576
 c:M.wc.length<=1048576
structure Touch (S:Nat->Prop) (w w':World):Prop where
 os:w'.os=w.os
 tape:w'.tape=w.tape
 output:w'.output=w.output
 size:w.heap.size<=w'.heap.size
 block:∀ k,k < w.heap.size->¬ S k->w'.heap[k]?=w.heap[k]?
theorem Touch.of_below {S:Nat->Prop} {a b:World} (h:Below a.heap.size a b):Touch S a b:=⟨h.os,h.tape,h.output,h.size,fun i hi _=>h.block i hi⟩
theorem Touch.below {S:Nat->Prop} {B:Nat} {w a b:World} (h:Below B w a) (k:Touch S a b) (hB:B<=a.heap.size) (hS:∀ k,S k->B<=k):Below B w b :=
 ⟨k.os.trans h.os,k.tape.trans h.tape,k.output.trans h.output,Nat.le_trans h.size k.size,fun i hi=>(k.block i (by omega) (fun hs=>by have:=hS i hs; omega)).trans (h.block i hi)⟩
theorem ERow.touch {α:Type} {E:Elt α} {w w':World} {base:Nat} {v:Value} {xs:List α} {S:Nat->Prop} (h:ERow E w base v xs) (hg:Touch S w w') (hne:∀ k,v.ownBlock=some k->¬ S k):ERow E w' base v xs:=by
 refine ⟨h.1,?_⟩
 rcases h.2 with hh | ⟨g,cap,cur,e,hb,hgg,r⟩
 ·exact .inl hh
 ·refine .inr ⟨g,cap,cur,e,hb,?_,r⟩
  rw [hg.block g (Array.getElem?_eq_some_iff.1 hgg).1 (hne g (by rw [e]; rfl))]
  exact hgg
end Go.Proofs.YtnmhkgmmpkjjeaaGreat
