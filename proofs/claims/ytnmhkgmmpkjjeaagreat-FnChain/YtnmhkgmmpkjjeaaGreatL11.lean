import Derived.Test.YtnmhkgmmpkjjeaaGreatL10
namespace Go.Proofs.YtnmhkgmmpkjjeaaGreat
open Go.ChangeShapes Go.WideShapes Go.ChangeAt Go.RowKit
set_option linter.unusedVariables false
structure Ay where
 kind:Int
 a:Int
 b:Int
 word:Int
def Az:Dc Ay:=⟨77,4,fun x=>[.int .i64 x.kind,.int .i64 x.a,.int .i64 x.b,.int .u64 x.word],⟨0,0,0,0⟩,by omega,fun _=>rfl⟩
theorem ML:(Tryz.prog.info? 77).map (fun i=>(i.zero,i.size,i.bytes))=some (some (.agg #[.int .i64 0,.int .i64 0,.int .i64 0,.int .u64 0]),4,32):=by kernel_rfl
theorem A6.snocL {α:Type} {E:Dc α} {w:World} {B:Nat} {v:Value} {ys:List α} {x:α} {m:Nat} (hm:m=ys.length+1) (h:w.ownsRow B E.T E.sz v m (AE E ys++E.enc x)):A6 E w B v (ys++[x]):=by
 unfold A6;have e2:AE E (ys++[x])=AE E ys++E.enc x:=by
  rw[C4];simp[AE]
 rw[List.length_append,e2];rw[hm] at h;exact h
def MU (ps:List P3) (f:Int):Bool:=PO (fun i=>decide ((Ag ps i).fr=f)) ps.length
theorem Kh (f:Nat->Bool) (n:Nat) (h:∀j,j<n->f j=false):PO f n=false:=by
 rw[PO,List.any_eq_false];intro x hx;simp[h x (List.mem_range.1 hx)]
end Go.Proofs.YtnmhkgmmpkjjeaaGreat
namespace Go.Proofs.YtnmhkgmmpkjjeaaGreat
open Go.ChangeShapes Go.WideShapes Go.ChangeAt Go.RowKit
set_option linter.unusedVariables false
attribute [local go_sem ↓] Go.wp_at_zero Go.wp_at_succ
set_option maxHeartbeats 2000000 in
theorem KB (g:Nat) (zs:List Int) (c:Nat) (f:Int) (hz:D3 zs) (hcc:zs.length<=c) (w:World) (hg:At w g zs) : Calls Tryz.prog 259 #[.agg #[.slice (some ⟨g,0,none⟩) zs.length c],.int .i64 f] w fun e w'=>e=.returned (.bool (MU (A5 zs) f))/\Below w.heap.size w w':=by
 obtain⟨wb,hwb⟩:∃wb,wb=w.alloc (.cells #[.slice (some ⟨g,0,none⟩) zs.length c] 35):=⟨_,rfl⟩
 have hbb:Below w.heap.size w wb:=by rw[hwb];exact(Below.refl _ _).alloc (Nat.le_refl _) _
 have hpl:=Fd g zs c hz hcc wb (hg.below hbb hg.lt);have hle:=DZ zs;rw[hwb] at hpl;have HWB:Hid (wb=_):=hwb;have HBB:Hid (Below w.heap.size w wb):=hbb;clear hwb hbb hz hg;obtain⟨ps,hps⟩:∃ps,ps=A5 zs:=⟨_,rfl⟩
 rw[<- hps] at hpl hle ⊢;clear hps;go_enter Tryz.func259,Tryz.ntmps259
 go_wp2_with fail
 refine hpl.mono ?_;rintro e w1 ⟨g1,c1,rfl,hr,hb1'⟩;have hb1:Below wb.heap.size wb w1:=by rw[HWB.out];exact hb1'
 have b1:Below w.heap.size w w1:=HBB.out.trans (hb1.mono HBB.out.size);obtain⟨gp,hp1,hp2⟩:=Ef hr;have HP1:Hid _:=hp1;have HP2:Hid _:=hp2;have HB1:Hid (Below w.heap.size w w1):=b1;clear hb1 hb1' hpl hr hp1 hp2 b1;go_wp2_with fail
 go_loopw [10] (fun i wr=>∃k:Nat,k<=ps.length/\i=.int .i64 k/\Hid (∀j,j<k->decide ((Ag ps j).fr=f)=false)/\Below w1.heap.size w1 wr) (fun i _=>ps.length-(intOf i).toNat)
 case atStart=>exact⟨0,Nat.zero_le _,rfl,fun j hj=>absurd hj (by omega),Below.refl _ _⟩
 case round =>
  obtain⟨k,hk,rfl,hall,hb⟩:=hrel;by_cases hlt:k<ps.length
  ·(obtain⟨E,hE⟩:∃E,Ag ps k=E:=⟨_,rfl⟩);obtain⟨F,L,P⟩:=E;obtain⟨hge,hgl⟩:=HP1.out (by omega);simp only[Option.some.injEq,Addr.mk.injEq,and_true] at hge;obtain rfl:=hge.symm;obtain⟨c0,c1,c2⟩:=HP2.out k F L P hlt hE wr hb;have HE:Hid (Ag ps k=_):=hE;(have L1:(0:Int)<=(k:Int):=by omega);(have L2:(k:Int)<(ps.length:Int):=by omega);have HB:Hid (Below w1.heap.size w1 wr):=hb;have hsz:=hb.size;clear hE hb hge;by_cases hf:F=f
   ·(have d:(F==f)=true:=by simpa using hf);have HR:Hid (MU ps f=true):=Rg _ k _ hlt (by rw[HE.out];exact decide_eq_true hf);clear hf;(go_wp2_with fail);go_ret;refine⟨by rw[HR.out];rfl,HB1.out.trans ((HB.out.alloc hsz _).mono HB1.out.size)⟩
   ·(have d:(F==f)=false:=by simpa using hf);(have HN:Hid (decide ((Ag ps k).fr=f)=false):=by rw[HE.out];exact decide_eq_false hf);clear hf;(go_wp2_with fail);go_roundw;case rel =>
     refine⟨k+1,by omega,by go_num,fun j hj=>?_,HB.out.alloc hsz _⟩;by_cases e:j=k
     ·rw[e];exact HN.out
     ·exact hall.out j (by omega)
    case measure=>simp[intOf];omega
  ·have HR:Hid (MU ps f=false):=Kh _ _ (fun j hj=>hall.out j (by omega));(go_wp2_with fail);go_ret;exact⟨by rw[HR.out];rfl,HB1.out.trans (hb.mono HB1.out.size)⟩
theorem Rz (zs:List Int) (hz:D3 zs) (i:Nat) (hi:i<(A5 zs).length):(((Ag (A5 zs) i).lv=1\/(Ag (A5 zs) i).lv=2\/(Ag (A5 zs) i).lv=3)/\0<=(Ag (A5 zs) i).pg/\(Ag (A5 zs) i).pg<=20000):=by
 have hmem:Ag (A5 zs) i∈A5 zs:=by
  unfold Ag;rw[List.getD_eq_getElem?_getD,List.getElem?_eq_getElem hi];exact List.getElem_mem hi
 have e:A5 zs=Ak zs (Ae zs.length) 2 ⟨0,1,0⟩:=by unfold A5;rw[if_neg hz.n0]
 generalize Ag (A5 zs) i=q at hmem ⊢;rw[e] at hmem;obtain⟨d',h⟩:=Ip 2 ⟨0,1,0⟩ (PE zs hz) _ hmem;obtain⟨h1,h2,_,_,h5,h6⟩:=h;omega
end Go.Proofs.YtnmhkgmmpkjjeaaGreat
namespace Go.Proofs.YtnmhkgmmpkjjeaaGreat
open Go.ChangeShapes Go.WideShapes Go.ChangeAt Go.RowKit
set_option linter.unusedVariables false
theorem A3 {p:Prop} (h:p):Hid p:=h
def hB (H:Nat->Ht) (lv p:Nat):Bool:=decide ((H p).k=1/\(lv≠3\/(H p).s=1))
def Hj (lv:Nat):Nat:=if lv=1 then 4096 else if lv=2 then 256 else 16
def Aq (lv:Nat):Nat:=if lv=1 then 256 else if lv=2 then 16 else 1
def nd (H:Nat->Ht) (lv p:Nat):Bool:=decide (lv=1)||(List.range (Hj lv)).any (fun k=>hB H lv (p+k))
theorem GM (H:Nat->Ht) (p:Nat):nd H 1 p=true:=by unfold nd;rfl
theorem G6 {H:Nat->Ht} {lv p k:Nat} (hk:k<Hj lv) (h:hB H lv (p+k)=true):nd H lv p=true:=by
 unfold nd;rw[Bool.or_eq_true];exact .inr (List.any_eq_true.2 ⟨k,List.mem_range.2 hk,h⟩)
theorem Hu {H:Nat->Ht} {lv p:Nat} (hl:lv≠1) (h:∀k,k<Hj lv->hB H lv (p+k)=false):nd H lv p=false:=by
 unfold nd;rw[Bool.or_eq_false_iff];refine⟨decide_eq_false hl,?_⟩;rw[List.any_eq_false];intro k hk;rw[h k (List.mem_range.1 hk)];decide
theorem Wj {H:Nat->Ht} {lv p:Nat} (hl:lv≠1) (h:nd H lv p=true):∃k,k<Hj lv/\hB H lv (p+k)=true:=by
 unfold nd at h;rw[Bool.or_eq_true] at h;rcases h with h|h
 ·exact absurd (of_decide_eq_true h) hl
 ·obtain⟨k,hk,h⟩:=List.any_eq_true.1 h;exact⟨k,List.mem_range.1 hk,h⟩
theorem Tb {H:Nat->Ht} {p j:Nat} (hj:j<16) (h:nd H 3 (p+j*16)=true):nd H 2 p=true:=by
 obtain⟨k,hk,hb⟩:=Wj (by decide) h;have hk':k<16:=hk;refine G6 (k:=j*16+k) (show j*16+k<256 by omega) ?_;unfold hB at hb ⊢;simp only[decide_eq_true_eq] at hb ⊢;rw[<- Nat.add_assoc];exact⟨hb.1,.inl (by decide)⟩
def st (H:Nat->Ht):Nat->Nat->List (Nat×Nat)
 | 0,p=>if nd H 3 p then [(3,p)] else []
 | f+1,p=>if nd H (2-f) p then (2-f,p) :: (List.range 16).flatMap (fun i=>st H f (p+i*Aq (2-f))) else []
theorem Mh (H:Nat->Ht) (p:Nat):st H 0 p=if nd H 3 p=true then [(3,p)] else []:=by unfold st;rfl
def EY (H:Nat->Ht) (g:Nat):List (Nat×Nat):=(if g%16=0/\nd H 2 (g*16)=true then [(2,g*16)] else [])++st H 0 (g*16)
def AA (H:Nat->Ht) (g:Nat):List (Nat×Nat):=(1,0) :: (List.range g).flatMap (EY H)
theorem GQ (H:Nat->Ht) (g:Nat):AA H (g+1)=AA H g++EY H g:=by
 unfold AA;rw[List.range_succ,List.flatMap_append];simp
theorem Jc (H:Nat->Ht) (p:Nat):(st H 0 p).length<=1:=by unfold st;split<;>simp
theorem TO (H:Nat->Ht) (g:Nat):(EY H g).length<=2:=by
 unfold EY;rw[List.length_append];have:=Jc H (g*16);split<;>simp<;>omega
theorem Hp (H:Nat->Ht):∀g,(AA H g).length<=1+g*2
 | 0=>by simp[AA]
 | g+1=>by
  rw[GQ,List.length_append];have:=Hp H g;have:=TO H g;omega
theorem NK {α:Type} (f:Nat->List α):∀n,(List.range (n*16)).flatMap f=(List.range n).flatMap (fun i=>(List.range 16).flatMap (fun j=>f (i*16+j)))
 | 0=>by simp
 | n+1=>by
  rw[Nat.add_mul,Nat.one_mul,List.range_add,List.flatMap_append,NK f n,@List.range_succ n,List.flatMap_append,List.flatMap_map];simp
theorem BA {α:Type} {f g:Nat->List α} {n:Nat} (h:∀i,i<n->f i=g i):(List.range n).flatMap f=(List.range n).flatMap g:=by
 induction n with
 | zero=>rfl
 | succ n ih=>rw[List.range_succ,List.flatMap_append,List.flatMap_append,ih (fun i hi=>h i (by omega))];simp[h n (by omega)]
theorem WL (H:Nat->Ht) (i:Nat):st H 1 (i*256)=(List.range 16).flatMap (fun j=>EY H (i*16+j)):=by
 have e1:st H 1 (i*256)=if nd H 2 (i*256) then (2,i*256) :: (List.range 16).flatMap (fun j=>st H 0 (i*256+j*16)) else []:=rfl;rw[e1];cases h2:nd H 2 (i*256)
 ·symm;rw[if_neg (by decide)];have:(List.range 16).flatMap (fun j=>EY H (i*16+j))=(List.range 16).flatMap (fun _=>([]:List (Nat×Nat))):=by
   refine BA (fun j hj=>?_);unfold EY;have n3:nd H 3 ((i*16+j)*16)=false:=by
    cases h3:nd H 3 ((i*16+j)*16)
    ·rfl
    ·rw[show (i*16+j)*16=i*256+j*16 by omega] at h3;rw[Tb hj h3] at h2;cases h2
   rw[if_neg (by
    rintro⟨hm,hn⟩
    have:j=0:=by omega
    subst this
    rw[show (i*16+0)*16=i*256 by omega,h2] at hn
    cases hn)]
   unfold st;rw[n3];rfl
  rw[this];simp
 ·rw[if_pos (by rfl)];have e2:(2,i*256) :: (List.range 16).flatMap (fun j=>st H 0 (i*256+j*16))=(List.range 16).flatMap (fun j=>(if j=0 then [(2,i*256)] else [])++st H 0 (i*256+j*16)):=by
   rw[show (16:Nat)=15+1 from rfl,List.range_succ_eq_map,List.flatMap_cons,List.flatMap_cons,List.flatMap_map,List.flatMap_map];simp
  rw[e2];refine BA (fun j hj=>?_);unfold EY;rw[show (i*16+j)*16=i*256+j*16 by omega];by_cases hj0:j=0
  ·subst hj0;rw[if_pos rfl,if_pos ⟨by omega,by simpa using h2⟩];simp
  ·rw[if_neg hj0,if_neg (fun h=>hj0 (by omega))]
theorem TD (H:Nat->Ht):st H 2 0=AA H 256:=by
 have e1:st H 2 0=if nd H 1 0 then (1,0) :: (List.range 16).flatMap (fun i=>st H 1 (0+i*256)) else []:=rfl;rw[e1,GM,if_pos rfl];unfold AA;rw[show (256:Nat)=16*16 from rfl,NK];congr 1;refine BA (fun i hi=>?_);rw[<- WL,Nat.zero_add]
theorem UD (H:Nat->Ht) (p:Nat):(st H 1 p).length<=17:=by
 have e1:st H 1 p=if nd H 2 p then (2,p) :: (List.range 16).flatMap (fun j=>st H 0 (p+j*16)) else []:=rfl;have hl:∀n,((List.range n).flatMap (fun j=>st H 0 (p+j*16))).length<=n:=by
  intro n;induction n with
  | zero=>simp
  | succ n ih =>
   rw[List.range_succ,List.flatMap_append,List.length_append];have:=Jc H (p+n*16);simp at ih ⊢;omega
 rw[e1];split
 ·have:=hl 16;rw[List.length_cons];omega
 ·simp
def Rw (H:Nat->Ht) (p:P3):Bool:=nd H p.lv.toNat p.pg.toNat
def As (lv pg:Int) (q:P3):Bool:=decide (q.lv=lv/\q.pg=pg)
def AH (qs:List P3) (lv pg:Int):Int:=match qs.find? (As lv pg) with
 | some q=>q.fr
 | none=>-1
def Aw (qs:List P3) (f:Int):Bool:=qs.any fun q=>decide (q.fr=f)
theorem FM {qs:List P3} {f:Int}:Aw qs f=true↔∃q∈qs,q.fr=f:=by
 unfold Aw;rw[List.any_eq_true];exact⟨fun ⟨q,h,e⟩=>⟨q,h,of_decide_eq_true e⟩,fun ⟨q,h,e⟩=>⟨q,h,decide_eq_true e⟩⟩
theorem C3 (a b:List P3) (f:Int):Aw (a++b) f=(Aw a f||Aw b f):=by unfold Aw;rw[List.any_append]
theorem Js:∀(f:Nat) (L:List Int),(∀g:Nat,g<f->(g:Int)∈L)->f<=L.length
 | 0,L,_=>Nat.zero_le _
 | f+1,L,h=>by
  have h1:(f:Int)∈L:=h f (by omega);have:=Js f (L.erase (f:Int)) (fun g hg=>(List.mem_erase_of_ne (by omega)).2 (h g (by omega)));rw[List.length_erase_of_mem h1] at this;have hp:0<L.length:=List.length_pos_of_mem h1;omega
theorem Jx {qs:List P3} {f:Nat} (h:∀g:Nat,g<f->Aw qs g=true):f<=qs.length:=by
 have:=Js f (qs.map (·.fr)) (fun g hg=>by
  obtain⟨q,hq,e⟩:=FM.1 (h g hg)
  exact List.mem_map.2 ⟨q,hq,e⟩)
 rwa [List.length_map] at this
def Ew (qs:List P3):Nat:=((List.range (qs.length+1)).find? (fun f=>!Aw qs (f:Nat))).getD 0
theorem Iq {p:Nat->Bool}:∀{n f:Nat},f<n->(∀g,g<f->p g=false)->p f=true->(List.range n).find? p=some f
 | n,f,hf,h1,h2=>by
  have e:n=f+((n-f-1)+1):=by omega
  rw[e,List.range_add,List.find?_append,List.range_succ_eq_map,List.map_cons,List.find?_cons_of_pos (by simpa using h2)];have:(List.range f).find? p=none:=by
   rw[List.find?_eq_none];intro x hx;rw[h1 x (List.mem_range.1 hx)];decide
  rw[this];rfl
theorem QC {qs:List P3} {f:Nat} (h1:∀g:Nat,g<f->Aw qs g=true) (h2:Aw qs f=false):Ew qs=f:=by
 unfold Ew;rw[Iq (f:=f) (by have:=Jx h1;omega) (fun g hg=>by rw[h1 g hg];rfl) (by rw[h2];rfl)];rfl
theorem V8 (qs:List P3):∃f:Nat,f<=qs.length/\(∀g:Nat,g<f->Aw qs g=true)/\Aw qs f=false:=by
 by_cases h:∃f:Nat,Aw qs f=false
 ·obtain⟨f,hf⟩:=h;have:∀n f:Nat,f<=n->Aw qs f=false->∃f:Nat,(∀g:Nat,g<f->Aw qs g=true)/\Aw qs f=false:=by
   intro n;induction n with
   | zero=>intro f h0 h1;exact⟨f,fun g hg=>absurd hg (by omega),h1⟩
   | succ n ih =>
    intro f h0 h1;by_cases hh:∃g:Nat,g<f/\Aw qs g=false
    ·obtain⟨g,hg,hg2⟩:=hh;exact ih g (by omega) hg2
    ·refine⟨f,fun g hg=>?_,h1⟩;cases hc:Aw qs g
     ·exact absurd ⟨g,hg,hc⟩ hh
     ·rfl
  obtain⟨f,h1,h2⟩:=this f f (Nat.le_refl _) hf;exact⟨f,Jx h1,h1,h2⟩
 ·have:qs.length+1<=qs.length:=Jx (fun g _=>by
   cases hc:Aw qs g
   ·exact absurd ⟨g,hc⟩ h
   ·rfl)
  omega
theorem FN (qs:List P3):Ew qs<=qs.length/\(∀g:Nat,g<Ew qs->Aw qs g=true)/\Aw qs (Ew qs:Nat)=false:=by
 obtain⟨f,h0,h1,h2⟩:=V8 qs;rw[QC h1 h2];exact⟨h0,h1,h2⟩
def Dk (kept fs:List P3) (s:Nat×Nat):List P3:=if AH kept s.1 s.2<0 then fs++[⟨(Ew (kept++fs):Nat),s.1,s.2⟩] else fs
def BJ (kept:List P3) (ws:List (Nat×Nat)) (k:Nat):List P3:=(ws.take k).foldl (Dk kept) []
theorem Cf (kept:List P3) (ws:List (Nat×Nat)):BJ kept ws 0=[]:=by unfold BJ;simp
theorem DL (kept:List P3) (ws:List (Nat×Nat)) (k:Nat) (h:k<ws.length):BJ kept ws (k+1)=Dk kept (BJ kept ws k) ws[k]:=by
 unfold BJ;rw[List.take_succ_eq_append_getElem h,List.foldl_append];rfl
theorem Er (kept:List P3) (ws:List (Nat×Nat)):∀k,k<=ws.length->(BJ kept ws k).length<=k
 | 0,_=>by rw[Cf];simp
 | k+1,h=>by
  have:=Er kept ws k (by omega);rw[DL kept ws k (by omega)];unfold Dk;split<;>simp<;>omega
theorem GO {qs:List P3} {lv pg:Int} (h:∀q∈qs,¬(q.lv=lv/\q.pg=pg)):AH qs lv pg=-1:=by
 unfold AH;have:qs.find? (As lv pg)=none:=by
  rw[List.find?_eq_none];intro q hq;unfold As;rw[decide_eq_false (h q hq)];decide
 rw[this]
theorem E8 {qs:List P3} {lv pg:Int} (h:0<=AH qs lv pg):∃q∈qs,q.lv=lv/\q.pg=pg/\q.fr=AH qs lv pg:=by
 unfold AH at h ⊢;cases hf:qs.find? (As lv pg) with
 | none=>rw[hf] at h;simp at h
 | some q =>
  have:=List.find?_some hf;unfold As at this;have h2:=of_decide_eq_true this;exact⟨q,List.mem_of_find?_eq_some hf,h2.1,h2.2,rfl⟩
theorem NR {a b:List P3} {lv pg:Int}:AH (a++b) lv pg=if (a.find? (As lv pg)).isSome then AH a lv pg else AH b lv pg:=by
 unfold AH;rw[List.find?_append];cases a.find? (As lv pg)<;>rfl
end Go.Proofs.YtnmhkgmmpkjjeaaGreat
namespace Go.Proofs.YtnmhkgmmpkjjeaaGreat
open Go.ChangeShapes Go.WideShapes Go.ChangeAt Go.RowKit
set_option linter.unusedVariables false
attribute [local go_sem ↓] Go.wp_at_zero Go.wp_at_succ

end Go.Proofs.YtnmhkgmmpkjjeaaGreat
namespace Go.Proofs.YtnmhkgmmpkjjeaaGreat
open Go.ChangeShapes Go.WideShapes Go.ChangeAt Go.RowKit
set_option linter.unusedVariables false
set_option linter.unusedSimpArgs false
def Eu (ra rb:List AF×Int×Int) (rc:List Int×Int) (rd:List Ay×Int):List Ay×Int×Int :=
 if ra.2.1≠0 then ([],100+ra.2.1,ra.2.2) else if rb.2.1≠0 then ([],200+rb.2.1,rb.2.2) else if rc.2≠0 then ([],300+rc.2,0) else if rd.2≠0 then ([],400+rd.2,0) else (rd.1,0,0)
def Cx (w:World) (r:List Ay×Int×Int) (e:Ending) (w':World):Prop :=
 ∃a c,e=.returned (.tuple #[.slice a r.1.length c,.agg #[.int .i64 r.2.1,.int .i64 r.2.2]])/\A6 Az w' w.heap.size (.slice a r.1.length c) r.1/\Below w.heap.size w w'
theorem Cx.drew {w W:World} {r:List Ay×Int×Int} {e:Ending} (h:Cx w r e W):Cx w r e W.drew:=by
 obtain⟨a,c,h1,h2,h3⟩:=h;exact⟨a,c,h1,h2.below (Below.refl _ _).drew,h3.drew⟩
theorem Wh {w:World} {g:Nat} {u0 u1:Value} (v0 v1:Value) (q0:w.cell? ⟨g,0,none⟩=some u0) (q1:w.cell? ⟨g,1,none⟩=some u1) : ((w.setCell ⟨g,0,none⟩ v0).setCell ⟨g,1,none⟩ v1).drew.cell? ⟨g,0,none⟩=some v0/\((w.setCell ⟨g,0,none⟩ v0).setCell ⟨g,1,none⟩ v1).drew.cell? ⟨g,1,none⟩=some v1:=by
 constructor
 ·show ((w.setCell ⟨g,0,none⟩ v0).setCell ⟨g,1,none⟩ v1).cell? ⟨g,0,none⟩=some v0;simp[go_sem,q0]
 ·show ((w.setCell ⟨g,0,none⟩ v0).setCell ⟨g,1,none⟩ v1).cell? ⟨g,1,none⟩=some v1;simp[go_sem,q1]
theorem Sy {w':World} {B:Nat} (g:Nat) (h:w'.heap[g]?=some (.cells #[] 77)) (hg:B<=g):A6 Az w' B (.slice (some ⟨g,0,none⟩) 0 0) [] :=
 ⟨by simp[AE],.inr ⟨g,0,#[],rfl,hg,h,Nat.le_refl _,Nat.zero_le _,by simp,by simp[AE]⟩⟩
end Go.Proofs.YtnmhkgmmpkjjeaaGreat
