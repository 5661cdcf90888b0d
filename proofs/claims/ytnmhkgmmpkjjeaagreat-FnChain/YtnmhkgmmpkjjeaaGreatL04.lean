import Derived.Test.YtnmhkgmmpkjjeaaGreatL03
import Derived.Test.YtnmhkgmmpkjjeaaGreatL00
import Derived.Laws.Concat
import Derived.Laws.DeepStrings4
namespace Go.Proofs.YtnmhkgmmpkjjeaaGreat
open Go.ChangeShapes Go.WideShapes Go.ChangeAt Go.RowKit
set_option linter.unusedVariables false
theorem Hx:(Tryz.prog.info? 75).map (fun i=>(i.zero,i.size,i.bytes))=some (some (.int .u64 0),1,8):=by kernel_rfl
def C9 (w:World) (g:Nat) (zs:List Int):Prop:=w.rowIs g 75 zs.length (fun i=>.int .u64 (zs.getD i 0))
theorem C9.cell {w:World} {g:Nat} {zs:List Int} (h:C9 w g zs) {i:Nat} (hi:i<zs.length):w.cell? ⟨g,i,none⟩=some (.int .u64 (zs.getD i 0)):=World.rowIs.cell h hi
theorem C9.below {w w':World} {g B:Nat} {zs:List Int} (h:C9 w g zs) (hb:Below B w w') (hg:g<B):C9 w' g zs:=World.rowIs.of_block h (hb.block g hg)
theorem C9.lt {w:World} {g:Nat} {zs:List Int} (h:C9 w g zs):g<w.heap.size:=World.rowIs.lt h
theorem Cr {B:Nat} {a w:World} (h:Below B a w) (n:Nat):Below B a (w.drewN n):=⟨h.os,h.tape,h.output,h.size,h.block⟩
end Go.Proofs.YtnmhkgmmpkjjeaaGreat
namespace Go.Proofs.YtnmhkgmmpkjjeaaGreat
open Go.ChangeShapes Go.WideShapes Go.ChangeAt Go.RowKit
set_option linter.unusedVariables false
attribute [local go_sem ↓] Go.wp_at_zero Go.wp_at_succ
structure P3 where
 fr:Int
 lv:Int
 pg:Int
def Cl (ps:List P3):List Value:=ps.flatMap fun p=>[.int .i64 p.fr,.int .i64 p.lv,.int .i64 p.pg]
def Ag (ps:List P3) (i:Nat):P3:=ps.getD i ⟨0,0,0⟩
theorem Dw (a b:List P3):Cl (a++b)=Cl a++Cl b:=by simp[Cl]
theorem RA (ps:List P3):∀i,i<ps.length->(Cl ps)[i*3]?=some (.int .i64 (Ag ps i).fr)/\(Cl ps)[i*3+1]?=some (.int .i64 (Ag ps i).lv)/\(Cl ps)[i*3+2]?=some (.int .i64 (Ag ps i).pg):=by
 induction ps with
 | nil=>intro i hi;simp at hi
 | cons p r ih =>
  intro i hi;cases i with
  | zero=>exact⟨rfl,rfl,rfl⟩
  | succ i =>
   have h:=ih i (by simpa using hi);have e:Cl (p :: r)=[.int .i64 p.fr,.int .i64 p.lv,.int .i64 p.pg]++Cl r:=rfl;(have e2:Ag (p :: r) (i+1)=Ag r i:=by simp[Ag]);rw[e,e2];refine⟨?_,?_,?_⟩
   ·rw[List.getElem?_append_right (by simp;omega),show (i+1)*3-List.length [Value.int .i64 p.fr,.int .i64 p.lv,.int .i64 p.pg]=i*3 by simp;omega];exact h.1
   ·rw[List.getElem?_append_right (by simp;omega),show (i+1)*3+1-List.length [Value.int .i64 p.fr,.int .i64 p.lv,.int .i64 p.pg]=i*3+1 by simp;omega];exact h.2.1
   ·rw[List.getElem?_append_right (by simp;omega),show (i+1)*3+2-List.length [Value.int .i64 p.fr,.int .i64 p.lv,.int .i64 p.pg]=i*3+2 by simp;omega];exact h.2.2
def Ab (w:World) (base:Nat) (v:Value) (ps:List P3):Prop:=w.ownsRow base 67 3 v ps.length (Cl ps)
theorem Ab.form {w:World} {base:Nat} {v:Value} {ps:List P3} (h:Ab w base v ps):∃a cap,v=.slice a ps.length cap/\(0<ps.length->∃g N f,a=some ⟨g,0,none⟩/\base<=g/\w.rowIs g 67 N f/\ps.length*3<=N/\∀i,i<ps.length->f (i*3)=.int .i64 (Ag ps i).fr/\f (i*3+1)=.int .i64 (Ag ps i).lv/\f (i*3+2)=.int .i64 (Ag ps i).pg):=by
 rcases h.2 with⟨rfl,h0⟩|⟨g,cap,cur,rfl,hb,hg,hn,hm,hs,ht⟩
 ·rw[h0];exact⟨none,0,rfl,fun h=>absurd h (by omega)⟩
 ·refine⟨_,cap,rfl,fun _=>⟨g,cur.size,fun i=>cur.getD i (.bool false),rfl,hb,⟨cur,hg,rfl,fun i hi=>by simp[hi]⟩,by rw[hs];omega,fun i hi=>?_⟩⟩;have hc:∀j u,j<ps.length*3->(Cl ps)[j]?=some u->cur.getD j (.bool false)=u:=by
   intro j u hj hu;rw[<- ht,List.getElem?_take,if_pos hj] at hu;simp at hu;simp[Array.getD_eq_getD_getElem?,hu]
  obtain⟨a,b,c⟩:=RA ps i hi;exact⟨hc _ _ (by omega) a,hc _ _ (by omega) b,hc _ _ (by omega) c⟩
theorem GC {w w':World} (h:Below w.heap.size w w'):w.grownBy w' none:=⟨h.os,h.tape,h.output,h.size,fun k hk _=>h.block k hk⟩
theorem Ab.below {w w':World} {base:Nat} {v:Value} {ps:List P3} (h:Ab w base v ps) (hb:Below w.heap.size w w'):Ab w' base v ps :=
 World.ownsRow.kept h (GC hb) (by cases hv:v.ownBlock<;>simp)
theorem Ab.rebase {w:World} {base base':Nat} {v:Value} {ps:List P3} (h:Ab w base v ps) (hb:base'<=base):Ab w base' v ps:=by
 refine⟨h.1,?_⟩;rcases h.2 with hh|⟨g,cap,cur,e,hg,r⟩
 ·exact .inl hh
 ·exact .inr ⟨g,cap,cur,e,Nat.le_trans hb hg,r⟩
theorem Ef {w:World} {b c:Nat} {a:Option Addr} {ps:List P3} (h:Ab w b (.slice a ps.length c) ps) : ∃g,(0<ps.length->a=some ⟨g,0,none⟩/\g<w.heap.size)/\∀k F L P,k<ps.length->Ag ps k=⟨F,L,P⟩->∀wX,Below w.heap.size w wX->wX.cell? ⟨g,k*3,none⟩=some (.int .i64 F)/\wX.cell? ⟨g,k*3+1,none⟩=some (.int .i64 L)/\wX.cell? ⟨g,k*3+2,none⟩=some (.int .i64 P):=by
 obtain⟨a',c',e,hf⟩:=h.form;simp only[Value.slice.injEq] at e;obtain⟨rfl,_,_⟩:=e;by_cases h0:0<ps.length
 ·obtain⟨g,N,f,rfl,_,hr,hN,hc⟩:=hf h0;refine⟨g,fun _=>⟨rfl,hr.lt⟩,fun k F L P hk he wX hX=>?_⟩;have hr1:wX.rowIs g 67 N f:=hr.of_block (hX.block g hr.lt);obtain⟨x0,x1,x2⟩:=hc k hk;rw[he] at x0 x1 x2;exact⟨(hr1.cell (by omega)).trans (congrArg some x0),(hr1.cell (by omega)).trans (congrArg some x1),(hr1.cell (by omega)).trans (congrArg some x2)⟩
 ·exact⟨0,fun h=>absurd h h0,fun k F L P hk=>absurd hk (by omega)⟩
end Go.Proofs.YtnmhkgmmpkjjeaaGreat
namespace Go.Proofs.YtnmhkgmmpkjjeaaGreat
open Go.ChangeShapes Go.WideShapes Go.ChangeAt Go.RowKit
set_option linter.unusedVariables false
set_option maxRecDepth 100000
def Bj (l:Int):Int:=if l=1 then 256 else if l=2 then 16 else 1
theorem Jg (l:Int):0<=Bj l/\Bj l<=256:=by
 unfold Bj;by_cases a:l=1<;>by_cases b:l=2<;>simp[a,b]
def A7 (zs:List Int) (f:Int) (i:Nat):Int:=zs.getD ((f*16).toNat+i) 0
def EF (zs:List Int) (n:Int) (p:P3) (i:Nat):Bool:=decide (AJ p.lv (A7 zs p.fr i)=1)&&decide (AV p.lv (A7 zs p.fr i)<n)
def AT (zs:List Int) (p:P3) (i:Nat):P3:=⟨AV p.lv (A7 zs p.fr i),p.lv+1,p.pg+i*Bj p.lv⟩
def Af (zs:List Int) (n:Int) (rec:P3->List P3) (p:P3) (k:Nat):List P3:=p :: (List.range k).flatMap fun i=>if EF zs n p i then rec (AT zs p i) else []
def Ak (zs:List Int) (n:Int):Nat->P3->List P3
 | 0,p=>[p]
 | d+1,p=>Af zs n (Ak zs n d) p 16
def WO:Nat->Nat
 | 0=>1
 | d+1=>1+16*WO d
theorem Kg (zs:List Int) (n:Int) (rec:P3->List P3) (p:P3):Af zs n rec p 0=[p]:=rfl
theorem Fj (zs:List Int) (n:Int) (rec:P3->List P3) (p:P3) (k:Nat):Af zs n rec p (k+1)=Af zs n rec p k++(if EF zs n p k then rec (AT zs p k) else []):=by
 simp[Af,List.range_succ]
theorem Eb (zs:List Int) (n:Int) (rec:P3->List P3) (p:P3) (B:Nat) (h:∀q,(rec q).length<=B):∀k,(Af zs n rec p k).length<=1+k*B
 | 0=>by simp[Af]
 | k+1=>by
  rw[Fj,List.length_append];have:=Eb zs n rec p B h k;have h2:(if EF zs n p k then rec (AT zs p k) else []).length<=B:=by split<;>simp[h]
  rw[Nat.add_mul];omega
theorem Dx (zs:List Int) (n:Int):∀d p,(Ak zs n d p).length<=WO d
 | 0,p=>by simp[Ak,WO]
 | d+1,p=>Eb zs n _ p (WO d) (Dx zs n d) 16
def Ae (m:Nat):Int:=if m<16\/8192<m\/¬m%16=0 then 0 else (m/16:Nat)
theorem D9 (m:Nat):Ae m<=512:=by unfold Ae;split<;>omega
theorem BS (m:Nat) (h:Ae m≠0):Ae m*16=m/\1<=Ae m:=by unfold Ae at h ⊢;split<;>simp_all<;>omega
theorem Cd (l x:Int):0<=AV l x/\AV l x<65536:=by unfold AV;split<;>omega
def D7 (zs:List Int) (n:Int) (p:P3) (i:Nat):Bool:=!(decide (AJ p.lv (A7 zs p.fr i)=4)||(decide (AJ p.lv (A7 zs p.fr i)=1)&&decide (n<=AV p.lv (A7 zs p.fr i))))
def Cn (zs:List Int) (n:Int) (p:P3):Bool:=(List.range 16).all (D7 zs n p)
def EO (ps:List P3) (i:Nat):Bool:=(List.range i).all fun j=>!decide ((Ag ps i).fr=(Ag ps j).fr)
def Bg (zs:List Int) (n:Int) (ps:List P3) (k:Nat):Bool:=(List.range k).all fun i=>EO ps i&&Cn zs n (Ag ps i)
theorem A2 {p:Prop} (h:p):Hid p:=h
theorem It {α:Type} {E:Dc α} {w:World} {B n:Nat} {v:Value} {xs:List α} {x:α} (hn:xs.length=n) (h:w.ownsRow B E.T E.sz v (n+1) (AE E xs++E.enc x)):A6 E w B v (xs++[x]):=by
 unfold A6;rw[C4,List.length_append,List.length_singleton,hn];have e:AE E [x]=E.enc x:=by simp[AE]
 rw[e];exact h
structure LS {α:Type} (E:Dc α) (w:World) (wr:World) (vv:Value) (l:List α):Prop where
 row:∃g c:Nat,vv=.slice (some ⟨g,0,none⟩) l.length c/\A6 E wr w.heap.size (.slice (some ⟨g,0,none⟩) l.length c) l
 bel:Below w.heap.size w wr
theorem LS.below {α:Type} {E:Dc α} {w wr w1:World} {vv:Value} {l:List α} (h:LS E w wr vv l) (hb:Below wr.heap.size wr w1):LS E w w1 vv l:=by
 obtain⟨⟨g,c,e,hr⟩,hbel⟩:=h;exact⟨⟨g,c,e,hr.below hb⟩,hbel.trans (hb.mono hbel.size)⟩
theorem LS.push {α:Type} {E:Dc α} {w w1 wn:World} {g c g1 c1:Nat} {l:List α} {x:α} {o:Obj} (hbel:Below w.heap.size w w1) (hr:A6 E w1 w.heap.size (.slice (some ⟨g,0,none⟩) l.length c) l) (hown:wn.ownsRow w.heap.size E.T E.sz (.slice (some ⟨g1,0,none⟩) (l.length+1) c1) (l.length+1) (AE E l++E.enc x)) (hgrow:(w1.alloc o).grownBy wn (Value.ownBlock (.slice (some ⟨g,0,none⟩) l.length c))) : LS E w wn (.slice (some ⟨g1,0,none⟩) (l.length+1) c1) (l++[x]):=by
 refine⟨⟨g1,c1,by simp,?_⟩,?_⟩
 ·have:=It rfl hown;rw[List.length_append,List.length_singleton];exact this
 ·exact(hbel.alloc hbel.size _).grown hgrow (by have:=hbel.size;simp;omega) (fun q hq=>(hr.own q hq).1)
theorem LS.new {α:Type} (E:Dc α) (w:World):LS E w (w.alloc (.cells #[] E.T)) (.slice (some ⟨w.heap.size,0,none⟩) 0 0) []:=⟨⟨w.heap.size,0,rfl,A6.empty E w w.heap.size (Nat.le_refl _)⟩,Ao⟩
abbrev AS:=List UInt8
def bs (l:AS):ByteArray:=⟨l.toArray⟩
theorem CY (l:AS):(bs l).size=l.length:=by show l.toArray.size=_;simp
theorem WA (l:AS) (i:Nat) (h:i<(bs l).size):(bs l)[i]'h=l.getD i 0:=by
 have hl:i<l.length:=by rw[<- CY];exact h
 simp only[List.getD,List.getElem?_eq_getElem hl,Option.getD_some];rfl
theorem Dm (a b:AS):bs a++bs b=bs (a++b):=by unfold bs;rw[ByteArray.mk_append_mk]
theorem FP (a:Array UInt8):ByteArray.mk a=bs a.toList:=rfl
def C6 (l:AS) (i j:Nat):AS:=(l.take j).drop i
theorem Du (l:AS) (i j:Nat):(bs l).extract i j=bs (C6 l i j):=by
 unfold bs C6;rw[ByteArray.extract_mk];congr 1;simp[List.drop_take]
theorem Cc (l:AS):(bs l).toList=l:=by
 rw[ByteArray.toList_eq];rfl
def Lm (c:UInt8):Bool:=decide (97<=c.toNat)&&decide (c.toNat<=122)
def Ct (c:UInt8):Bool:=decide (48<=c.toNat)&&decide (c.toNat<=57)
def P8 (c:UInt8):Bool:=Lm c||Ct c||decide (c.toNat=95)
def VM (c:UInt8):Bool:=P8 c||decide (c.toNat=32)||decide (c.toNat=10)||decide (c.toNat=59)
def OD (b:Bool) (c:UInt8):Bool:=(b||decide (c.toNat=35))&&!decide (c.toNat=10)
def Bf:Bool->AS->AS
 | _,[]=>[]
 | b,c :: r=>(if OD b c then 32 else c) :: Bf (OD b c) r
def Fm:Nat->AS->Int
 | _,[]=>-1
 | k,c :: r=>if VM c then Fm (k+1) r else k
def De (w:AS):List AS:=if w=[] then [] else [w]
def Dd:AS->AS->List AS
 | w,[]=>De w
 | w,c :: r=>if P8 c then Dd (w++[c]) r else De w++((if decide (c.toNat=59) then [[59]] else [])++Dd [] r)
theorem Qa {l:AS} {k:Nat} (h:k<l.length):l.drop k=l.getD k 0 :: l.drop (k+1):=by
 rw[List.drop_eq_getElem_cons h];simp[List.getD,List.getElem?_eq_getElem h]
theorem U2 {l:AS} {k:Nat} (h:k<l.length):C6 l k (k+1)=[l.getD k 0]:=by
 unfold C6;rw[List.drop_take,show k+1-k=1 by omega,Qa h];rfl
def JX (l:AS) (k:Nat):UInt8:=l.getD k 0
theorem Jl {l:AS} {k:Nat} (h:k<l.length):l.drop k=JX l k :: l.drop (k+1):=Qa h
theorem QE {l:AS} {k:Nat} (h:k<l.length):C6 l k (k+1)=[JX l k]:=U2 h
theorem Di (l:AS) (i:Nat) (h:i<(bs l).size):(bs l)[i]'h=JX l i:=WA l i h
def H7:Dc AS:=⟨93,1,fun x=>[.string (bs x)],[],by omega,fun _=>rfl⟩
theorem UZ:(Tryz.prog.info? 93).map (fun i=>(i.zero,i.size,i.bytes))=some (some (.agg #[.string (bs [])]),1,16):=by kernel_rfl
theorem Jm {w:World} {b g c:Nat} {xs:List AS} (h:A6 H7 w b (.slice (some ⟨g,0,none⟩) xs.length c) xs) (i:Nat) (hi:i<xs.length):g<w.heap.size/\w.cell? ⟨g,i,none⟩=some (.string (bs (AI H7 xs i))):=by
 obtain⟨a,c',e,h1⟩:=h.form;obtain⟨g',N,f,e2,_,hr,hN,hf⟩:=h1 (by omega);have hN':xs.length*1<=N:=hN;simp only[Value.slice.injEq] at e;obtain⟨e,_,_⟩:=e;rw[e2] at e;simp only[Option.some.injEq,Addr.mk.injEq,and_true] at e;subst e;refine⟨hr.lt,?_⟩;have h0:=hf i hi 0 (by decide);have h1:i*H7.sz+0=i:=by show i*1+0=i;omega
 rw[h1] at h0;rw[hr.cell (i:=i) (by omega),h0];rfl
end Go.Proofs.YtnmhkgmmpkjjeaaGreat
namespace Go.Proofs.YtnmhkgmmpkjjeaaGreat
open Go.ChangeShapes Go.WideShapes Go.ChangeAt Go.RowKit
set_option linter.unusedVariables false
set_option maxRecDepth 100000
attribute [local go_sem ↓] Go.wp_at_zero Go.wp_at_succ
attribute [local go_sem] CY Di Dm FP Du Cc
theorem B8 (c:UInt8) (w:World):Calls Tryz.prog 96 #[.int .u8 c.toNat] w fun e w'=>e=.returned (.bool (P8 c))/\w'=w:=by
 unfold P8 Lm Ct;obtain⟨n,hn⟩:∃n:Nat,c.toNat=n:=⟨_,rfl⟩
 rw[hn];clear hn;go_enter Tryz.func96,Tryz.ntmps96
 go_wp2
 all_goals
  go_ret
  refine⟨congrArg (fun b=>Ending.returned (Value.bool b)) ?_,rfl⟩
  rw[Bool.eq_iff_iff]
  simp
  omega
theorem Ns (l:AS) (w:World) (hle:l.length<=20000):Calls Tryz.prog 33 #[.string (bs l)] w fun e w'=>e=.returned (.string (bs (Bf false l)))/\w'=w:=by
 go_enter Tryz.func33,Tryz.ntmps33
 go_wp2_with fail
 go_loopw [3,4,5] (fun ov bv iv wr=>∃(k:Nat) (O:AS) (B:Bool),k<=l.length/\iv=.int .i64 k/\bv=.bool B/\ov=.string (bs O)/\Hid (O++Bf B (l.drop k)=Bf false l)/\Hid (O.length=k)/\wr=w) (fun _ _ iv _=>l.length-(intOf iv).toNat)
 case atStart=>exact⟨0,[],false,Nat.zero_le _,rfl,rfl,rfl,rfl,rfl,rfl⟩
 case round =>
  obtain⟨k,O,B,hk,rfl,rfl,rfl,HO,HK,rfl⟩:=hrel;by_cases hlt:k<l.length
  ·have HD:Hid _:=Jl hlt;have hcut:=QE hlt;(obtain⟨c,hc⟩:∃c,JX l k=c:=⟨_,rfl⟩);rw[hc] at HD hcut;(have hO:O.length<9223372036854775807:=by have:=HK.out;omega);(have L1:(0:Int)<=(k:Int):=by omega);(have L2:(k:Int)<(l.length:Int):=by omega);(have L3:(0:Int)<=(k:Int)+1:=by omega);(have L4:(k:Int)+1<=(l.length:Int):=by omega);by_cases h35:c.toNat=35
   ·(have e1:((c.toNat:Int)==35)=true:=by simp[h35]);(have e2:((c.toNat:Int)==10)=false:=by simp[h35]);(have HN:Hid (OD B c=true):=A2 <| by unfold OD;simp[h35]);clear h35;(go_wp2_with fail);go_roundw;(case rel=>exact⟨k+1,O++[32],true,by omega,by go_num,rfl,rfl,A2 <| by rw[<- HO.out,HD.out];simp[Bf,HN.out],A2 <| by have:=HK.out;simp;omega,by first|rfl|trivial⟩);case measure=>simp[intOf];omega
   ·(have e1:((c.toNat:Int)==35)=false:=by simp;omega);by_cases h10:c.toNat=10
    ·(have e2:((c.toNat:Int)==10)=true:=by simp[h10]);(have HN:Hid (OD B c=false):=A2 <| by unfold OD;simp[h10]);clear h35 h10;(go_wp2_with fail);go_roundw;(case rel=>exact⟨k+1,O++[c],false,by omega,by go_num,rfl,rfl,A2 <| by rw[<- HO.out,HD.out];simp[Bf,HN.out],A2 <| by have:=HK.out;simp;omega,by first|rfl|trivial⟩);case measure=>simp[intOf];omega
    ·(have e2:((c.toNat:Int)==10)=false:=by simp;omega);(have HN:Hid (OD B c=B):=A2 <| by unfold OD;simp[h35,h10]);clear h35 h10;cases B
     ·(go_wp2_with fail);go_roundw;(case rel=>exact⟨k+1,O++[c],false,by omega,by go_num,rfl,rfl,A2 <| by rw[<- HO.out,HD.out];simp[Bf,HN.out],A2 <| by have:=HK.out;simp;omega,by first|rfl|trivial⟩);case measure=>simp[intOf];omega
     ·(go_wp2_with fail);go_roundw;(case rel=>exact⟨k+1,O++[32],true,by omega,by go_num,rfl,rfl,A2 <| by rw[<- HO.out,HD.out];simp[Bf,HN.out],A2 <| by have:=HK.out;simp;omega,by first|rfl|trivial⟩);case measure=>simp[intOf];omega
  ·have HE:Hid (Bf false l=O):=A2 <| by
    rw[<- HO.out,List.drop_eq_nil_of_le (by omega)];simp[Bf]
   (go_wp2_with fail);go_ret;exact⟨by rw[HE.out];rfl,rfl⟩
theorem Rf (l:AS) (w:World) (hle:l.length<=20000):Calls Tryz.prog 34 #[.string (bs l)] w fun e w'=>e=.returned (.int .i64 (Fm 0 l))/\w'=w:=by
 go_enter Tryz.func34,Tryz.ntmps34
 go_wp2_with fail
 go_loopw [3] (fun iv wr=>∃(k:Nat),k<=l.length/\iv=.int .i64 k/\Hid (Fm k (l.drop k)=Fm 0 l)/\wr=w) (fun iv _=>l.length-(intOf iv).toNat)
 case atStart=>exact⟨0,Nat.zero_le _,rfl,rfl,rfl⟩
 case round =>
  obtain⟨k,hk,rfl,HO,rfl⟩:=hrel;by_cases hlt:k<l.length
  ·have HD:Hid _:=Jl hlt;(obtain⟨c,hc⟩:∃c,JX l k=c:=⟨_,rfl⟩);rw[hc] at HD;(have L1:(0:Int)<=(k:Int):=by omega);(have L2:(k:Int)<(l.length:Int):=by omega);cases hw:P8 c
   ·(have HB1:Hid (VM c=false->Fm 0 l=k):=A2 <| fun h=>by rw[<- HO.out,HD.out];simp[Fm,h]);(have HB2:Hid (VM c=true->Fm (k+1) (l.drop (k+1))=Fm 0 l):=A2 <| fun h=>by rw[<- HO.out,HD.out];simp[Fm,h]);have HW:Hid (P8 c=false):=hw;by_cases h1:c.toNat=32
    ·have HR:Hid _:=HB2.out (by unfold VM;simp[h1]);(have e1:((c.toNat:Int) != 32)=false:=by simp[h1]);clear h1;(go_wp2_with (go_at_call 96;refine(B8 c _).mono ?_;rintro e w' ⟨rfl,rfl⟩));go_roundw;(case rel=>exact⟨k+1,by omega,by go_num,HR,by first|rfl|trivial⟩);case measure=>simp[intOf];omega
    ·(have e1:((c.toNat:Int) != 32)=true:=by simp;omega);by_cases h2:c.toNat=10
     ·have HR:Hid _:=HB2.out (by unfold VM;simp[h2]);(have e2:((c.toNat:Int) != 10)=false:=by simp[h2]);clear h1 h2;(go_wp2_with (go_at_call 96;refine(B8 c _).mono ?_;rintro e w' ⟨rfl,rfl⟩));go_roundw;(case rel=>exact⟨k+1,by omega,by go_num,HR,by first|rfl|trivial⟩);case measure=>simp[intOf];omega
     ·(have e2:((c.toNat:Int) != 10)=true:=by simp;omega);by_cases h3:c.toNat=59
      ·have HR:Hid _:=HB2.out (by unfold VM;simp[h3]);(have e3:((c.toNat:Int) != 59)=false:=by simp[h3]);clear h1 h2 h3;(go_wp2_with (go_at_call 96;refine(B8 c _).mono ?_;rintro e w' ⟨rfl,rfl⟩));go_roundw;(case rel=>exact⟨k+1,by omega,by go_num,HR,by first|rfl|trivial⟩);case measure=>simp[intOf];omega
      ·(have e3:((c.toNat:Int) != 59)=true:=by simp;omega);have HR:Hid _:=HB1.out (by unfold VM;simp[h1,h2,h3,HW.out]);clear h1 h2 h3;(go_wp2_with (go_at_call 96;refine(B8 c _).mono ?_;rintro e w' ⟨rfl,rfl⟩));go_ret;exact⟨by rw[HR.out];rfl,rfl⟩
   ·(have HR:Hid (Fm (k+1) (l.drop (k+1))=Fm 0 l):=A2 <| by rw[<- HO.out,HD.out];simp[Fm,VM,hw]);(go_wp2_with (go_at_call 96;refine(B8 c _).mono ?_;rintro e w' ⟨rfl,rfl⟩));go_roundw;(case rel=>exact⟨k+1,by omega,by go_num,HR,by first|rfl|trivial⟩);case measure=>simp[intOf];omega
  ·have HE:Hid (Fm 0 l=-1):=A2 <| by
    rw[<- HO.out,List.drop_eq_nil_of_le (by omega)];simp[Fm]
   (go_wp2_with fail);go_ret;exact⟨by rw[HE.out];rfl,rfl⟩
set_option maxHeartbeats 4000000 in
theorem Mu (l:AS) (w:World) (hle:l.length<=20000):Calls Tryz.prog 35 #[.string (bs l)] w fun e w'=>∃v,e=.returned v/\LS H7 w w' v (Dd [] l):=by
 obtain⟨i0,hi,hz0,hz1,hz2⟩:=info_parts UZ;have HS:Hid (LS H7 w (w.alloc (.cells #[] 93)) (.slice (some ⟨w.heap.size,0,none⟩) 0 0) []):=LS.new H7 w;go_enter Tryz.func35,Tryz.ntmps35
 go_wp2_with fail
 go_loopw [3,4,5] (fun vv sv iv wr=>∃(k:Nat) (T:List AS) (W:AS),k<=l.length+1/\iv=.int .i64 k/\sv=.string (bs W)/\LS H7 w wr vv T/\Hid (k<=l.length->T++Dd W (l.drop k)=Dd [] l)/\Hid (k=l.length+1->T=Dd [] l)/\Hid (T.length+W.length<=k)) (fun _ _ iv _=>l.length+1-(intOf iv).toNat)
 case atStart=>exact⟨0,[],[],Nat.zero_le _,rfl,rfl,HS.out,A2 fun _=>rfl,A2 fun h=>by simp at h,A2 (by simp)⟩
 case round =>
  obtain⟨k,T,W,hk,rfl,rfl,hst,HT,HZ,HK⟩:=hrel;by_cases hlt:k<l.length
  ·have HD:Hid _:=Jl hlt;have hcut:=QE hlt;(obtain⟨c,hc⟩:∃c,JX l k=c:=⟨_,rfl⟩);rw[hc] at HD hcut;(have HE:Hid (T++Dd W (c :: l.drop (k+1))=Dd [] l):=A2 <| by rw[<- HD.out];exact HT.out (by omega));(have hW:W.length<9223372036854775807:=by have:=HK.out;omega);(have L1:(0:Int)<=(k:Int):=by omega);(have L2:(k:Int)<(l.length:Int):=by omega);(have L3:(0:Int)<=(k:Int)+1:=by omega);(have L4:(k:Int)+1<=(l.length:Int):=by omega);(have L5:(k:Int)<=(l.length:Int):=by omega);cases hw:P8 c
   ·have HE2:Hid ((T++(De W++(if decide (c.toNat=59) then [[59]] else [])))++Dd [] (l.drop (k+1))=Dd [] l):=A2 <| by
     rw[<- HE.out,Dd,hw];simp
    by_cases h59:c.toNat=59
    ·(have e59:((c.toNat:Int)==59)=true:=by simp[h59]);have HE3:Hid ((T++(De W++[[59]]))++Dd [] (l.drop (k+1))=Dd [] l):=A2 <| by
      rw[<- HE2.out,decide_eq_true h59];rfl
     clear h59;by_cases hWn:W=[]
     ·subst hWn;obtain⟨⟨gv1,cv1,rfl,hrow⟩,hbel⟩:=hst;have hsz1:=hbel.size;have HROW1:Hid _:=hrow;have HB1:Hid (Below _ w _):=hbel;(have hln1:T.length<=30000:=by have:=HK.out;omega);clear hrow hbel;(go_wp2_with (first|(go_at_call 96;refine(B8 c _).mono ?_;rintro e w' ⟨rfl,rfl⟩)|(at_builtin;refine wpList_append_lies _ rfl (.tmp 48) (.tmp 50) 89 rfl w.heap.size 93 i0 _ 1 16 Tryz.underlying89 hi hz0 hz1 hz2 rfl (by omega) _ _ _ rfl (World.ownsRow.alloc HROW1.out _) ⟨_,0,none⟩ 1 1 [.string (bs [59])] rfl rfl ?c1 ?c2 (by omega) ?c3 ?c4 ?c5 _ rfl ?_)));(case c1=>exact World.news_of_block (heap_alloc_new _ (.cells #[.string (bs [59])] 93)));(case c2=>intro u hu;simp at hu;rcases hu with rfl;rfl);(case c3=>unfold maxLen;omega);(case c4=>omega);(case c5=>simp;omega);intro g1 cap1 wn1 hown hgrow hat hlt3;have hst1:=LS.push (E:=H7) (x:=[59]) HB1.out HROW1.out hown hgrow;clear hown hgrow hat hlt3;(go_wp2_with fail);go_roundw;(case rel=>exact⟨k+1,T++[[59]],[],by omega,by go_num,rfl,hst1,A2 fun _=>HE3.out,A2 fun h=>absurd h (by omega),A2 (by have:=HK.out;simp at this ⊢;omega)⟩);case measure=>first|(simp[intOf];done)|(simp[intOf];omega)
     ·have h0:0<W.length:=List.length_pos_iff.2 hWn;(have HF:Hid (De W=[W]):=A2 <| by unfold De;rw[if_neg hWn]);clear hWn;obtain⟨⟨gv1,cv1,rfl,hrow⟩,hbel⟩:=hst;have hsz1:=hbel.size;have HROW1:Hid _:=hrow;have HB1:Hid (Below _ w _):=hbel;(have hln1:T.length<=30000:=by have:=HK.out;omega);clear hrow hbel;(go_wp2_with (first|(go_at_call 96;refine(B8 c _).mono ?_;rintro e w' ⟨rfl,rfl⟩)|(at_builtin;refine wpList_append_lies _ rfl (.tmp 33) (.tmp 36) 89 rfl w.heap.size 93 i0 _ 1 16 Tryz.underlying89 hi hz0 hz1 hz2 rfl (by omega) _ _ _ rfl (World.ownsRow.alloc HROW1.out _) ⟨_,0,none⟩ 1 1 [.string (bs W)] rfl rfl ?c1 ?c2 (by omega) ?c3 ?c4 ?c5 _ rfl ?_)));(case c1=>exact World.news_of_block (heap_alloc_new _ (.cells #[.string (bs W)] 93)));(case c2=>intro u hu;simp at hu;rcases hu with rfl;rfl);(case c3=>unfold maxLen;omega);(case c4=>omega);(case c5=>simp;omega);intro g1 cap1 wn1 hown hgrow hat hlt3;have hst1:=LS.push (E:=H7) (x:=W) HB1.out HROW1.out hown hgrow;clear hown hgrow hat hlt3;(obtain⟨T2,hT2⟩:∃T2,T++[W]=T2:=⟨_,rfl⟩);(have hT2l:T.length+1=T2.length:=by rw[<- hT2];simp);rw[hT2,hT2l] at hst1;rw[hT2l];have HT2:Hid _:=hT2;have HT2l:Hid _:=hT2l;clear hT2 hT2l;obtain⟨⟨gv2,cv2,eg2,hrow⟩,hbel⟩:=hst1;have hsz2:=hbel.size;have HROW2:Hid _:=hrow;have HB2:Hid (Below _ w _):=hbel;(have hln2:T2.length<=30000:=by have:=HK.out;have:=HT2l.out;omega);clear hrow hbel;simp only[Value.slice.injEq,Option.some.injEq,Addr.mk.injEq,and_true,true_and] at eg2;obtain⟨rfl,rfl⟩:=eg2;(go_wp2_with (at_builtin;refine wpList_append_lies _ rfl (.tmp 48) (.tmp 50) 89 rfl w.heap.size 93 i0 _ 1 16 Tryz.underlying89 hi hz0 hz1 hz2 rfl (by omega) _ _ _ rfl (World.ownsRow.alloc HROW2.out _) ⟨_,0,none⟩ 1 1 [.string (bs [59])] rfl rfl ?c1 ?c2 (by omega) ?c3 ?c4 ?c5 _ rfl ?_));(case c1=>exact World.news_of_block (heap_alloc_new _ (.cells #[.string (bs [59])] 93)));(case c2=>intro u hu;simp at hu;rcases hu with rfl;rfl);(case c3=>unfold maxLen;omega);(case c4=>omega);(case c5=>simp;omega);intro g2 cap2 wn2 hown hgrow hat hlt3;have hst2:=LS.push (E:=H7) (x:=[59]) HB2.out HROW2.out hown hgrow;clear hown hgrow hat hlt3;(go_wp2_with fail);go_roundw;(case rel=>exact⟨k+1,T2++[[59]],[],by omega,by go_num,rfl,hst2,A2 fun _=>by rw[<- HE3.out,HF.out,<- HT2.out];simp,A2 fun h=>absurd h (by omega),A2 (by have:=HK.out;have:=HT2l.out;simp at this ⊢;omega)⟩);case measure=>first|(simp[intOf];done)|(simp[intOf];omega)
    ·(have e59:((c.toNat:Int)==59)=false:=by simp;omega);have HE3:Hid ((T++De W)++Dd [] (l.drop (k+1))=Dd [] l):=A2 <| by
      rw[<- HE2.out,decide_eq_false h59];simp
     clear h59;by_cases hWn:W=[]
     ·subst hWn;(go_wp2_with (go_at_call 96;refine(B8 c _).mono ?_;rintro e w' ⟨rfl,rfl⟩));go_roundw;(case rel=>exact⟨k+1,T,[],by omega,by go_num,rfl,hst,A2 fun _=>by rw[<- HE3.out];simp[De],A2 fun h=>absurd h (by omega),A2 (by have:=HK.out;simp at this ⊢;omega)⟩);case measure=>first|(simp[intOf];done)|(simp[intOf];omega)
     ·have h0:0<W.length:=List.length_pos_iff.2 hWn;(have HF:Hid (De W=[W]):=A2 <| by unfold De;rw[if_neg hWn]);clear hWn;obtain⟨⟨gv1,cv1,rfl,hrow⟩,hbel⟩:=hst;have hsz1:=hbel.size;have HROW1:Hid _:=hrow;have HB1:Hid (Below _ w _):=hbel;(have hln1:T.length<=30000:=by have:=HK.out;omega);clear hrow hbel;(go_wp2_with (first|(go_at_call 96;refine(B8 c _).mono ?_;rintro e w' ⟨rfl,rfl⟩)|(at_builtin;refine wpList_append_lies _ rfl (.tmp 33) (.tmp 36) 89 rfl w.heap.size 93 i0 _ 1 16 Tryz.underlying89 hi hz0 hz1 hz2 rfl (by omega) _ _ _ rfl (World.ownsRow.alloc HROW1.out _) ⟨_,0,none⟩ 1 1 [.string (bs W)] rfl rfl ?c1 ?c2 (by omega) ?c3 ?c4 ?c5 _ rfl ?_)));(case c1=>exact World.news_of_block (heap_alloc_new _ (.cells #[.string (bs W)] 93)));(case c2=>intro u hu;simp at hu;rcases hu with rfl;rfl);(case c3=>unfold maxLen;omega);(case c4=>omega);(case c5=>simp;omega);intro g1 cap1 wn1 hown hgrow hat hlt3;have hst1:=LS.push (E:=H7) (x:=W) HB1.out HROW1.out hown hgrow;clear hown hgrow hat hlt3;(go_wp2_with fail);go_roundw;(case rel=>exact⟨k+1,T++[W],[],by omega,by go_num,rfl,hst1,A2 fun _=>by rw[<- HE3.out,HF.out],A2 fun h=>absurd h (by omega),A2 (by have:=HK.out;simp at this ⊢;omega)⟩);case measure=>first|(simp[intOf];done)|(simp[intOf];omega)
   ·have HE2:Hid (T++Dd (W++[c]) (l.drop (k+1))=Dd [] l):=A2 <| by
     rw[<- HE.out,Dd,hw];simp
    (go_wp2_with (go_at_call 96;refine(B8 c _).mono ?_;rintro e w' ⟨rfl,rfl⟩));go_roundw;(case rel=>exact⟨k+1,T,W++[c],by omega,by go_num,rfl,hst,A2 fun _=>HE2.out,A2 fun h=>absurd h (by omega),A2 (by have:=HK.out;simp;omega)⟩);case measure=>first|(simp[intOf];done)|(simp[intOf];omega)
  ·by_cases hz:k=l.length
   ·have HE:Hid (T++De W=Dd [] l):=A2 <| by
     have:=HT.out (by omega);rw[hz,List.drop_length,Dd] at this;exact this
    subst hz;(have L1:(0:Int)<=(l.length:Int):=by omega);by_cases hWn:W=[]
    ·subst hWn;(go_wp2_with fail);go_roundw;(case rel=>exact⟨l.length+1,T,[],by omega,by go_num,rfl,hst,A2 fun h=>absurd h (by omega),A2 fun _=>by rw[<- HE.out];simp[De],A2 (by have:=HK.out;simp at this ⊢;omega)⟩);case measure=>first|(simp[intOf];done)|(simp[intOf];omega)
    ·have h0:0<W.length:=List.length_pos_iff.2 hWn;(have HF:Hid (De W=[W]):=A2 <| by unfold De;rw[if_neg hWn]);clear hWn;obtain⟨⟨gv1,cv1,rfl,hrow⟩,hbel⟩:=hst;have hsz1:=hbel.size;have HROW1:Hid _:=hrow;have HB1:Hid (Below _ w _):=hbel;(have hln1:T.length<=30000:=by have:=HK.out;omega);clear hrow hbel;(go_wp2_with (at_builtin;refine wpList_append_lies _ rfl (.tmp 33) (.tmp 36) 89 rfl w.heap.size 93 i0 _ 1 16 Tryz.underlying89 hi hz0 hz1 hz2 rfl (by omega) _ _ _ rfl (World.ownsRow.alloc HROW1.out _) ⟨_,0,none⟩ 1 1 [.string (bs W)] rfl rfl ?c1 ?c2 (by omega) ?c3 ?c4 ?c5 _ rfl ?_));(case c1=>exact World.news_of_block (heap_alloc_new _ (.cells #[.string (bs W)] 93)));(case c2=>intro u hu;simp at hu;rcases hu with rfl;rfl);(case c3=>unfold maxLen;omega);(case c4=>omega);(case c5=>simp;omega);intro g1 cap1 wn1 hown hgrow hat hlt3;have hst1:=LS.push (E:=H7) (x:=W) HB1.out HROW1.out hown hgrow;clear hown hgrow hat hlt3;(go_wp2_with fail);go_roundw;(case rel=>exact⟨l.length+1,T++[W],[],by omega,by go_num,rfl,hst1,A2 fun h=>absurd h (by omega),A2 fun _=>by rw[<- HE.out,HF.out],A2 (by have:=HK.out;simp at this ⊢;omega)⟩);case measure=>first|(simp[intOf];done)|(simp[intOf];omega)
   ·(have hz2:k=l.length+1:=by omega);have HE:Hid (T=Dd [] l):=A2 (HZ.out hz2);subst hz2;(go_wp2_with fail);go_ret;refine⟨_,rfl,?_⟩;rw[<- HE.out];exact hst
end Go.Proofs.YtnmhkgmmpkjjeaaGreat
namespace Go.Proofs.YtnmhkgmmpkjjeaaGreat
open Go.ChangeShapes Go.WideShapes Go.ChangeAt Go.RowKit
set_option linter.unusedVariables false
set_option maxRecDepth 100000
attribute [local go_sem] CY Di Dm FP Du Cc
def O7:AS:=[48,49,50,51,52,53,54,55,56,57]
def AW (n:Nat):AS:=if n<10 then C6 O7 n (n+1) else AW (n/10)++C6 O7 (n%10) (n%10+1)
theorem Cg (n:Nat):(AW n).length<=n+1:=by
 induction n using Nat.strongRecOn with
 | _ n ih =>
  unfold AW;have hc:∀i,(C6 O7 i (i+1)).length<=1:=fun i=>by
   unfold C6;rw[List.length_drop,List.length_take];omega
  split
  ·have:=hc n;omega
  ·have:=ih (n/10) (by omega);have:=hc (n%10);rw[List.length_append];omega
set_option maxHeartbeats 1000000 in
theorem He (n:Nat) (hn:n<=1000000000):∀w,Calls Tryz.prog 207 #[.int .i64 (n:Int)] w fun e w'=>e=.returned (.string (bs (AW n)))/\Below w.heap.size w w':=by
 induction n using Nat.strongRecOn with
 | _ n ih =>
  intro w;have hlen:O7.length=10:=rfl;by_cases h:n<10
  ·(have e:AW n=C6 O7 n (n+1):=by unfold AW;rw[if_pos h]);rw[e];(have h':(n:Int)<10:=by omega);(have L0:(0:Int)<=(n:Int):=by omega);(have L1:(n:Int)<=(n:Int)+1:=by omega);(have L2:(n:Int)+1<=10:=by omega);have HD:Hid (O7=[48,49,50,51,52,53,54,55,56,57]):=A2 rfl;clear ih e;(go_enter Tryz.func207,Tryz.ntmps207);(go_wp2_with fail);go_ret;refine⟨?_,Below.refl _ _⟩;first|rfl|(rw[HD.out];rfl)
  ·(have e:AW n=AW (n/10)++C6 O7 (n%10) (n%10+1):=by conv=>lhs;unfold AW;rw[if_neg h]);rw[e];(have h':¬(n:Int)<10:=by omega);have hi:=ih (n/10) (by omega) (by omega);(obtain⟨Q,hQ⟩:∃Q,n/10=Q:=⟨_,rfl⟩);(obtain⟨R,hR⟩:∃R,n%10=R:=⟨_,rfl⟩);(have E1:(n:Int).tdiv 10=(Q:Int):=by rw[Int.tdiv_eq_ediv_of_nonneg (by omega)];omega);(have E1b:(n:Int)/10=(Q:Int):=by omega);(have E2:(n:Int).tmod 10=(R:Int):=by rw[Int.tmod_eq_emod_of_nonneg (by omega)];omega);(have E2b:(n:Int)%10=(R:Int):=by omega);(have hR1:R<10:=by omega);(have hQ1:Q<=100000000:=by omega);(have L0:(0:Int)<=(R:Int):=by omega);(have L1:(R:Int)<=(R:Int)+1:=by omega);(have L2:(R:Int)+1<=10:=by omega);(have W1:IntKind.i64.wrap (Q:Int)=(Q:Int):=by rw[IntKind.wrap_i64];omega);(have W2:IntKind.i64.wrap ((R:Int)+1)=(R:Int)+1:=by rw[IntKind.wrap_i64];omega);rw[hQ] at hi ⊢;rw[hR];have hS:=Cg Q;generalize AW Q=SQ at *;have hC:(C6 [48,49,50,51,52,53,54,55,56,57] R (R+1)).length<=1:=by
    unfold C6;rw[List.length_drop,List.length_take];omega
   (have hcat:¬9223372036854775807<List.length SQ+List.length (C6 [48,49,50,51,52,53,54,55,56,57] R (R+1)):=by omega);clear ih e hQ hR h;(go_enter Tryz.func207,Tryz.ntmps207);(go_wp2_with fail);refine wp_region_held_drew (S:=(fun _=>True)) (by kernel_rfl) trivial (fun hHeld=>?_);refine tk 0 ?_;refine tk 1 ?_;refine tk 3 ?_;refine tk 4 ?_;refine tk 5 ?_;refine tk 6 ?_;refine tk 7 ?_;refine tk 8 ?_;refine wpAnyH_ready (rs:=[2]) (by kernel_rfl) (by simp) ?_;refine AllReadyH.cons rfl (fun K hK=>?_) AllReadyH.nil;go_simp;(go_at_call 207);refine(hi _).mono ?_;rintro e w1 ⟨rfl,hb1⟩;have hB1:Below w.heap.size w w1:=(Below.refl _ _).drew.trans (hb1.mono (by simp));(go_wp2_with fail);refine hK.out _ _ trivial (fun hHeld2=>?_);clear hK K;refine tk 9 ?_;refine tk 10 ?_;refine wpAnyH_done (by kernel_rfl) ?_ _;(go_wp2_with fail);go_ret;refine⟨?_,hB1⟩;first|rfl|simp[O7]
end Go.Proofs.YtnmhkgmmpkjjeaaGreat
