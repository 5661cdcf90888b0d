import Derived.Test.YtnmhkgmmpkjjeaaGreatK06
namespace Go.Proofs.YtnmhkgmmpkjjeaaGreat
set_option linter.unusedVariables false
def hB (H:Nat->Ht) (lv p:Nat):Bool:=decide ((H p).k=1/\(lv≠3\/(H p).s=1))
def ID (lv:Nat):Nat:=if lv=1 then 4096 else if lv=2 then 256 else 16
def Ao (lv:Nat):Nat:=if lv=1 then 256 else if lv=2 then 16 else 1
def nd (H:Nat->Ht) (lv p:Nat):Bool:=decide (lv=1)||(List.range (ID lv)).any (fun k=>hB H lv (p+k))
theorem Gc (H:Nat->Ht) (p:Nat):nd H 1 p=true:=by unfold nd;rfl
theorem FF {H:Nat->Ht} {lv p k:Nat} (hk:k<ID lv) (h:hB H lv (p+k)=true):nd H lv p=true:=by
 unfold nd;rw[Bool.or_eq_true];exact .inr (List.any_eq_true.2 ⟨k,List.mem_range.2 hk,h⟩)
theorem Ib {H:Nat->Ht} {lv p:Nat} (hl:lv≠1) (h:∀k,k<ID lv->hB H lv (p+k)=false):nd H lv p=false:=by
 unfold nd;rw[Bool.or_eq_false_iff];refine⟨decide_eq_false hl,?_⟩;rw[List.any_eq_false];intro k hk;rw[h k (List.mem_range.1 hk)];decide
theorem Ye {H:Nat->Ht} {lv p:Nat} (hl:lv≠1) (h:nd H lv p=true):∃k,k<ID lv/\hB H lv (p+k)=true:=by
 unfold nd at h;rw[Bool.or_eq_true] at h;rcases h with h|h
 ·exact absurd (of_decide_eq_true h) hl
 ·obtain⟨k,hk,h⟩:=List.any_eq_true.1 h;exact⟨k,List.mem_range.1 hk,h⟩
theorem UN {H:Nat->Ht} {p j:Nat} (hj:j<16) (h:nd H 3 (p+j*16)=true):nd H 2 p=true:=by
 obtain⟨k,hk,hb⟩:=Ye (by decide) h;have hk':k<16:=hk;refine FF (k:=j*16+k) (show j*16+k<256 by omega) ?_;unfold hB at hb ⊢;simp only[decide_eq_true_eq] at hb ⊢;rw[<- Nat.add_assoc];exact⟨hb.1,.inl (by decide)⟩
def st (H:Nat->Ht):Nat->Nat->List (Nat×Nat)
 | 0,p=>if nd H 3 p then [(3,p)] else []
 | f+1,p=>if nd H (2-f) p then (2-f,p) :: (List.range 16).flatMap (fun i=>st H f (p+i*Ao (2-f))) else []
theorem Np (H:Nat->Ht) (p:Nat):st H 0 p=if nd H 3 p=true then [(3,p)] else []:=by unfold st;rfl
def ER (H:Nat->Ht) (g:Nat):List (Nat×Nat):=(if g%16=0/\nd H 2 (g*16)=true then [(2,g*16)] else [])++st H 0 (g*16)
def AC (H:Nat->Ht) (g:Nat):List (Nat×Nat):=(1,0) :: (List.range g).flatMap (ER H)
theorem Gw (H:Nat->Ht) (g:Nat):AC H (g+1)=AC H g++ER H g:=by
 unfold AC;rw[List.range_succ,List.flatMap_append];simp
theorem KF (H:Nat->Ht) (p:Nat):(st H 0 p).length<=1:=by unfold st;split<;>simp
theorem Ts (H:Nat->Ht) (g:Nat):(ER H g).length<=2:=by
 unfold ER;rw[List.length_append];have:=KF H (g*16);split<;>simp<;>omega
theorem Ie (H:Nat->Ht):∀g,(AC H g).length<=1+g*2
 | 0=>by simp[AC]
 | g+1=>by
  rw[Gw,List.length_append];have:=Ie H g;have:=Ts H g;omega
theorem Mt {α:Type} (f:Nat->List α):∀n,(List.range (n*16)).flatMap f=(List.range n).flatMap (fun i=>(List.range 16).flatMap (fun j=>f (i*16+j)))
 | 0=>by simp
 | n+1=>by
  rw[Nat.add_mul,Nat.one_mul,List.range_add,List.flatMap_append,Mt f n,@List.range_succ n,List.flatMap_append,List.flatMap_map];simp
theorem BC {α:Type} {f g:Nat->List α} {n:Nat} (h:∀i,i<n->f i=g i):(List.range n).flatMap f=(List.range n).flatMap g:=by
 induction n with
 | zero=>rfl
 | succ n ih=>rw[List.range_succ,List.flatMap_append,List.flatMap_append,ih (fun i hi=>h i (by omega))];simp[h n (by omega)]
theorem Xa (H:Nat->Ht) (i:Nat):st H 1 (i*256)=(List.range 16).flatMap (fun j=>ER H (i*16+j)):=by
 have e1:st H 1 (i*256)=if nd H 2 (i*256) then (2,i*256) :: (List.range 16).flatMap (fun j=>st H 0 (i*256+j*16)) else []:=rfl;rw[e1];cases h2:nd H 2 (i*256)
 ·symm;rw[if_neg (by decide)];have:(List.range 16).flatMap (fun j=>ER H (i*16+j))=(List.range 16).flatMap (fun _=>([]:List (Nat×Nat))):=by
   refine BC (fun j hj=>?_);unfold ER;have n3:nd H 3 ((i*16+j)*16)=false:=by
    cases h3:nd H 3 ((i*16+j)*16)
    ·rfl
    ·rw[show (i*16+j)*16=i*256+j*16 by omega] at h3;rw[UN hj h3] at h2;cases h2
   rw[if_neg (by
    rintro⟨hm,hn⟩
    have:j=0:=by omega
    subst this
    rw[show (i*16+0)*16=i*256 by omega,h2] at hn
    cases hn)]
   unfold st;rw[n3];rfl
  rw[this];simp
 ·rw[if_pos (by rfl)];have e2:(2,i*256) :: (List.range 16).flatMap (fun j=>st H 0 (i*256+j*16))=(List.range 16).flatMap (fun j=>(if j=0 then [(2,i*256)] else [])++st H 0 (i*256+j*16)):=by
   rw[show (16:Nat)=15+1 from rfl,List.range_succ_eq_map,List.flatMap_cons,List.flatMap_cons,List.flatMap_map,List.flatMap_map];simp
  rw[e2];refine BC (fun j hj=>?_);unfold ER;rw[show (i*16+j)*16=i*256+j*16 by omega];by_cases hj0:j=0
  ·subst hj0;rw[if_pos rfl,if_pos ⟨by omega,by simpa using h2⟩];simp
  ·rw[if_neg hj0,if_neg (fun h=>hj0 (by omega))]
theorem TK (H:Nat->Ht):st H 2 0=AC H 256:=by
 have e1:st H 2 0=if nd H 1 0 then (1,0) :: (List.range 16).flatMap (fun i=>st H 1 (0+i*256)) else []:=rfl;rw[e1,Gc,if_pos rfl];unfold AC;rw[show (256:Nat)=16*16 from rfl,Mt];congr 1;refine BC (fun i hi=>?_);rw[<- Xa,Nat.zero_add]
theorem Vw (H:Nat->Ht) (p:Nat):(st H 1 p).length<=17:=by
 have e1:st H 1 p=if nd H 2 p then (2,p) :: (List.range 16).flatMap (fun j=>st H 0 (p+j*16)) else []:=rfl;have hl:∀n,((List.range n).flatMap (fun j=>st H 0 (p+j*16))).length<=n:=by
  intro n;induction n with
  | zero=>simp
  | succ n ih =>
   rw[List.range_succ,List.flatMap_append,List.length_append];have:=KF H (p+n*16);simp at ih ⊢;omega
 rw[e1];split
 ·have:=hl 16;rw[List.length_cons];omega
 ·simp
def SJ (H:Nat->Ht) (p:P3):Bool:=nd H p.lv.toNat p.pg.toNat
def AJ (lv pg:Int) (q:P3):Bool:=decide (q.lv=lv/\q.pg=pg)
def AE (qs:List P3) (lv pg:Int):Int:=match qs.find? (AJ lv pg) with
 | some q=>q.fr
 | none=>-1
def B5 (qs:List P3) (f:Int):Bool:=qs.any fun q=>decide (q.fr=f)
theorem H5 {qs:List P3} {f:Int}:B5 qs f=true↔∃q∈qs,q.fr=f:=by
 unfold B5;rw[List.any_eq_true];exact⟨fun ⟨q,h,e⟩=>⟨q,h,of_decide_eq_true e⟩,fun ⟨q,h,e⟩=>⟨q,h,decide_eq_true e⟩⟩
theorem CJ (a b:List P3) (f:Int):B5 (a++b) f=(B5 a f||B5 b f):=by unfold B5;rw[List.any_append]
theorem KU:∀(f:Nat) (L:List Int),(∀g:Nat,g<f->(g:Int)∈L)->f<=L.length
 | 0,L,_=>Nat.zero_le _
 | f+1,L,h=>by
  have h1:(f:Int)∈L:=h f (by omega);have:=KU f (L.erase (f:Int)) (fun g hg=>(List.mem_erase_of_ne (by omega)).2 (h g (by omega)));rw[List.length_erase_of_mem h1] at this;have hp:0<L.length:=List.length_pos_of_mem h1;omega
theorem Kb {qs:List P3} {f:Nat} (h:∀g:Nat,g<f->B5 qs g=true):f<=qs.length:=by
 have:=KU f (qs.map (·.fr)) (fun g hg=>by
  obtain⟨q,hq,e⟩:=H5.1 (h g hg)
  exact List.mem_map.2 ⟨q,hq,e⟩)
 rwa [List.length_map] at this
def Eh (qs:List P3):Nat:=((List.range (qs.length+1)).find? (fun f=>!B5 qs (f:Nat))).getD 0
theorem JV {p:Nat->Bool}:∀{n f:Nat},f<n->(∀g,g<f->p g=false)->p f=true->(List.range n).find? p=some f
 | n,f,hf,h1,h2=>by
  have e:n=f+((n-f-1)+1):=by omega
  rw[e,List.range_add,List.find?_append,List.range_succ_eq_map,List.map_cons,List.find?_cons_of_pos (by simpa using h2)];have:(List.range f).find? p=none:=by
   rw[List.find?_eq_none];intro x hx;rw[h1 x (List.mem_range.1 hx)];decide
  rw[this];rfl
theorem Qw {qs:List P3} {f:Nat} (h1:∀g:Nat,g<f->B5 qs g=true) (h2:B5 qs f=false):Eh qs=f:=by
 unfold Eh;rw[JV (f:=f) (by have:=Kb h1;omega) (fun g hg=>by rw[h1 g hg];rfl) (by rw[h2];rfl)];rfl
theorem WK (qs:List P3):∃f:Nat,f<=qs.length/\(∀g:Nat,g<f->B5 qs g=true)/\B5 qs f=false:=by
 by_cases h:∃f:Nat,B5 qs f=false
 ·obtain⟨f,hf⟩:=h;have:∀n f:Nat,f<=n->B5 qs f=false->∃f:Nat,(∀g:Nat,g<f->B5 qs g=true)/\B5 qs f=false:=by
   intro n;induction n with
   | zero=>intro f h0 h1;exact⟨f,fun g hg=>absurd hg (by omega),h1⟩
   | succ n ih =>
    intro f h0 h1;by_cases hh:∃g:Nat,g<f/\B5 qs g=false
    ·obtain⟨g,hg,hg2⟩:=hh;exact ih g (by omega) hg2
    ·refine⟨f,fun g hg=>?_,h1⟩;cases hc:B5 qs g
     ·exact absurd ⟨g,hg,hc⟩ hh
     ·rfl
  obtain⟨f,h1,h2⟩:=this f f (Nat.le_refl _) hf;exact⟨f,Kb h1,h1,h2⟩
 ·have:qs.length+1<=qs.length:=Kb (fun g _=>by
   cases hc:B5 qs g
   ·exact absurd ⟨g,hc⟩ h
   ·rfl)
  omega
theorem FQ (qs:List P3):Eh qs<=qs.length/\(∀g:Nat,g<Eh qs->B5 qs g=true)/\B5 qs (Eh qs:Nat)=false:=by
 obtain⟨f,h0,h1,h2⟩:=WK qs;rw[Qw h1 h2];exact⟨h0,h1,h2⟩
def Dx (kept fs:List P3) (s:Nat×Nat):List P3:=if AE kept s.1 s.2<0 then fs++[⟨(Eh (kept++fs):Nat),s.1,s.2⟩] else fs
def BK (kept:List P3) (ws:List (Nat×Nat)) (k:Nat):List P3:=(ws.take k).foldl (Dx kept) []
theorem Cv (kept:List P3) (ws:List (Nat×Nat)):BK kept ws 0=[]:=by unfold BK;simp
theorem DN (kept:List P3) (ws:List (Nat×Nat)) (k:Nat) (h:k<ws.length):BK kept ws (k+1)=Dx kept (BK kept ws k) ws[k]:=by
 unfold BK;rw[List.take_succ_eq_append_getElem h,List.foldl_append];rfl
theorem Gn (kept:List P3) (ws:List (Nat×Nat)):∀k,k<=ws.length->(BK kept ws k).length<=k
 | 0,_=>by rw[Cv];simp
 | k+1,h=>by
  have:=Gn kept ws k (by omega);rw[DN kept ws k (by omega)];unfold Dx;split<;>simp<;>omega
theorem Fa {qs:List P3} {lv pg:Int} (h:∀q∈qs,¬(q.lv=lv/\q.pg=pg)):AE qs lv pg=-1:=by
 unfold AE;have:qs.find? (AJ lv pg)=none:=by
  rw[List.find?_eq_none];intro q hq;unfold AJ;rw[decide_eq_false (h q hq)];decide
 rw[this]
theorem CI {qs:List P3} {lv pg:Int} (h:0<=AE qs lv pg):∃q∈qs,q.lv=lv/\q.pg=pg/\q.fr=AE qs lv pg:=by
 unfold AE at h ⊢;cases hf:qs.find? (AJ lv pg) with
 | none=>rw[hf] at h;simp at h
 | some q =>
  have:=List.find?_some hf;unfold AJ at this;have h2:=of_decide_eq_true this;exact⟨q,List.mem_of_find?_eq_some hf,h2.1,h2.2,rfl⟩
theorem Ja {a b:List P3} {lv pg:Int}:AE (a++b) lv pg=if (a.find? (AJ lv pg)).isSome then AE a lv pg else AE b lv pg:=by
 unfold AE;rw[List.find?_append];cases a.find? (AJ lv pg)<;>rfl
structure En where
 lv:Int
 pg:Int
 ad:Int
def Cc (t:P3) (i:Nat):En:=⟨t.lv,t.pg+i*CH t.lv,t.fr*16+i⟩
def DF (kept:List P3) (t:P3) (i:Nat):P3:=⟨AE kept (t.lv+1) (t.pg+i*CH t.lv),t.lv+1,t.pg+i*CH t.lv⟩
def KV (kept:List P3):Nat->P3->List En
 | 0,_=>[]
 | f+1,t=>(List.range 16).flatMap fun i=>Cc t i :: (if 0<=(DF kept t i).fr then KV kept f (DF kept t i) else [])
def ET (kept:List P3) (page lv:Nat):List En:=if page%Ao lv=0/\0<=AE kept lv (page-page%(Ao lv*16):Nat) then [⟨lv,page,AE kept lv (page-page%(Ao lv*16):Nat)*16+(page/Ao lv%16:Nat)⟩] else []
def Lw (kept:List P3) (page:Nat):List En:=ET kept page 1++(ET kept page 2++ET kept page 3)
def Bc (kept:List P3) (n:Nat):List En:=(List.range n).flatMap (Lw kept)
theorem JS (kept:List P3) (n:Nat):Bc kept (n+1)=Bc kept n++Lw kept n:=by
 unfold Bc;rw[List.range_succ,List.flatMap_append];simp
theorem Iv (kept:List P3) (page lv:Nat):(ET kept page lv).length<=1:=by unfold ET;split<;>simp
theorem IW (kept:List P3):∀n,(Bc kept n).length<=n*3
 | 0=>by simp[Bc]
 | n+1=>by
  rw[JS,List.length_append];have:=IW kept n;have h1:=Iv kept n 1;have h2:=Iv kept n 2;have h3:=Iv kept n 3;unfold Lw;rw[List.length_append,List.length_append];omega
theorem Xw {α:Type} (A:List α) (f:Nat->List α):(List.range 16).flatMap (fun j=>(if j=0 then A else [])++f j)=A++(List.range 16).flatMap f:=by
 rw[show (16:Nat)=15+1 from rfl,List.range_succ_eq_map,List.flatMap_cons,List.flatMap_cons,List.flatMap_map,List.flatMap_map];simp
structure Kq (kept:List P3):Prop where
 root:AE kept 1 0=0
 up:∀i j:Nat,j<16->0<=AE kept 3 (i*256+j*16:Nat)->0<=AE kept 2 (i*256:Nat)
 no4:∀p:Int,AE kept 4 p<0
theorem Wp (kept:List P3) (i j:Nat) (hj:j<16):(List.range 16).flatMap (fun k=>ET kept ((i*16+j)*16+k) 3)=if 0<=AE kept 3 ((i*16+j)*16:Nat) then (List.range 16).flatMap (fun k=>[(⟨3,((i*16+j)*16+k:Nat),AE kept 3 ((i*16+j)*16:Nat)*16+k⟩:En)]) else []:=by
 have e:(List.range 16).flatMap (fun k=>ET kept ((i*16+j)*16+k) 3)=(List.range 16).flatMap (fun k=>if 0<=AE kept 3 ((i*16+j)*16:Nat) then [(⟨3,((i*16+j)*16+k:Nat),AE kept 3 ((i*16+j)*16:Nat)*16+k⟩:En)] else []):=by
  refine BC (fun k hk=>?_);unfold ET;have e1:Ao 3=1:=rfl;have e2:(i*16+j)*16+k-((i*16+j)*16+k)%(1*16)=(i*16+j)*16:=by omega
  have e3:((i*16+j)*16+k)/1%16=k:=by omega
  rw[e1,e2,e3];by_cases h:0<=AE kept 3 ((i*16+j)*16:Nat)
  ·rw[if_pos ⟨Nat.mod_one _,h⟩,if_pos h];rfl
  ·rw[if_neg (fun hh=>h hh.2),if_neg h]
 rw[e];split
 ·rfl
 ·simp
theorem Yj (kept:List P3) (i j k:Nat) (hj:j<16) (hk:k<16):ET kept ((i*16+j)*16+k) 2=if k=0 then (if 0<=AE kept 2 (i*256:Nat) then [(⟨2,(i*256+j*16:Nat),AE kept 2 (i*256:Nat)*16+j⟩:En)] else []) else []:=by
 unfold ET;have e1:Ao 2=16:=rfl;have e2:(i*16+j)*16+k-((i*16+j)*16+k)%(16*16)=i*256:=by omega
 have e3:((i*16+j)*16+k)/16%16=j:=by omega
 have e4:((i*16+j)*16+k)%16=k:=by omega
 rw[e1,e2,e3,e4];by_cases h0:k=0
 ·subst h0;rw[if_pos rfl];by_cases h:0<=AE kept 2 (i*256:Nat)
  ·rw[if_pos ⟨rfl,h⟩,if_pos h,show (i*16+j)*16+0=i*256+j*16 by omega];rfl
  ·rw[if_neg (fun hh=>h hh.2),if_neg h]
 ·rw[if_neg (fun hh=>h0 hh.1),if_neg h0]
theorem Yc (kept:List P3) (hr:AE kept 1 0=0) (i j k:Nat) (hi:i<16) (hj:j<16) (hk:k<16):ET kept ((i*16+j)*16+k) 1=if k=0 then (if j=0 then [(⟨1,(i*256:Nat),i⟩:En)] else []) else []:=by
 unfold ET;have e1:Ao 1=256:=rfl;have e2:(i*16+j)*16+k-((i*16+j)*16+k)%(256*16)=0:=by omega
 have e3:((i*16+j)*16+k)/256%16=i:=by omega
 have hr':AE kept ((1:Nat):Int) ((0:Nat):Int)=0:=hr;rw[e1,e2,e3,hr'];by_cases h:k=0/\j=0
 ·obtain⟨rfl,rfl⟩:=h;rw[if_pos ⟨by omega,by omega⟩,if_pos rfl,if_pos rfl,show (i*16+0)*16+0=i*256 by omega];simp
 ·rw[if_neg (fun hh=>h (by omega))];by_cases h0:k=0
  ·rw[if_pos h0,if_neg (fun hh=>h ⟨h0,hh⟩)]
  ·rw[if_neg h0]
theorem Yr (kept:List P3) (hk:Kq kept) (f:Int) (p:Nat):KV kept 1 ⟨f,3,p⟩=(List.range 16).flatMap (fun k=>[(⟨3,(p+k:Nat),f*16+k⟩:En)]):=by
 have e:KV kept 1 ⟨f,3,p⟩=(List.range 16).flatMap fun i=>Cc ⟨f,3,p⟩ i :: (if 0<=(DF kept ⟨f,3,p⟩ i).fr then KV kept 0 (DF kept ⟨f,3,p⟩ i) else []):=rfl
 rw[e];refine BC (fun i hi=>?_);have h4:¬0<=(DF kept ⟨f,3,p⟩ i).fr:=by
  have:=hk.no4 (p+i*CH 3);show ¬0<=AE kept (3+1) (p+i*CH 3);have e:(3+1:Int)=4:=rfl;rw[e];omega
 rw[if_neg h4];unfold Cc;have:CH 3=1:=rfl;simp[this]
theorem Yy (kept:List P3) (hk:Kq kept) (f:Int) (p:Nat):KV kept 2 ⟨f,2,p⟩=(List.range 16).flatMap (fun j=>⟨2,(p+j*16:Nat),f*16+j⟩ :: (if 0<=AE kept 3 (p+j*16:Nat) then (List.range 16).flatMap (fun k=>[(⟨3,(p+j*16+k:Nat),AE kept 3 (p+j*16:Nat)*16+k⟩:En)]) else [])):=by
 have e:KV kept 2 ⟨f,2,p⟩=(List.range 16).flatMap fun i=>Cc ⟨f,2,p⟩ i :: (if 0<=(DF kept ⟨f,2,p⟩ i).fr then KV kept 1 (DF kept ⟨f,2,p⟩ i) else []):=rfl
 rw[e];refine BC (fun j hj=>?_);have c2:CH 2=16:=rfl;have ep:(p:Int)+j*CH 2=((p+j*16:Nat):Int):=by rw[c2];omega
 have eu:DF kept ⟨f,2,p⟩ j=⟨AE kept 3 (p+j*16:Nat),3,(p+j*16:Nat)⟩:=by
  unfold DF;dsimp only;rw[ep];rfl
 have eo:Cc ⟨f,2,p⟩ j=⟨2,(p+j*16:Nat),f*16+j⟩:=by unfold Cc;dsimp only;rw[ep]
 rw[eu,eo,Yr kept hk]
theorem QQ (kept:List P3) (hk:Kq kept):KV kept 3 ⟨0,1,0⟩=Bc kept 4096:=by
 have e:KV kept 3 ⟨0,1,0⟩=(List.range 16).flatMap fun i=>Cc ⟨0,1,0⟩ i :: (if 0<=(DF kept ⟨0,1,0⟩ i).fr then KV kept 2 (DF kept ⟨0,1,0⟩ i) else []):=rfl
 rw[e];unfold Bc;rw[show (4096:Nat)=256*16 from rfl,Mt,show (256:Nat)=16*16 from rfl,Mt];refine BC (fun i hi=>?_);have c1:CH 1=256:=rfl;have ep:(0:Int)+i*CH 1=((i*256:Nat):Int):=by rw[c1];omega
 have eu:DF kept ⟨0,1,0⟩ i=⟨AE kept 2 (i*256:Nat),2,(i*256:Nat)⟩:=by
  unfold DF;dsimp only;rw[ep];rfl
 have eo:Cc ⟨0,1,0⟩ i=⟨1,(i*256:Nat),i⟩:=by unfold Cc;dsimp only;rw[ep];simp
 rw[eu,eo,Yy kept hk];have hroot:=hk.root;have step:∀j,j<16->(List.range 16).flatMap (fun k=>Lw kept ((i*16+j)*16+k))=(if j=0 then [(⟨1,(i*256:Nat),i⟩:En)] else [])++((if 0<=AE kept 2 (i*256:Nat) then [(⟨2,(i*256+j*16:Nat),AE kept 2 (i*256:Nat)*16+j⟩:En)] else [])++(List.range 16).flatMap (fun k=>ET kept ((i*16+j)*16+k) 3)):=by
  intro j hj;rw[<- Xw,<- Xw];refine BC (fun k hk=>?_);unfold Lw;rw[Yc kept hroot i j k hi hj hk,Yj kept i j k hj hk]
 rw[BC step,Xw];rw[List.singleton_append];congr 1;by_cases h2:0<=AE kept 2 (i*256:Nat)
 ·rw[if_pos h2];refine BC (fun j hj=>?_);rw[if_pos h2,Wp kept i j hj,List.singleton_append,show (i*16+j)*16=i*256+j*16 by omega]
 ·rw[if_neg h2];have:(List.range 16).flatMap (fun j=>(if 0<=AE kept 2 (i*256:Nat) then [(⟨2,(i*256+j*16:Nat),AE kept 2 (i*256:Nat)*16+j⟩:En)] else [])++(List.range 16).flatMap (fun k=>ET kept ((i*16+j)*16+k) 3))=(List.range 16).flatMap (fun _=>([]:List En)):=by
   refine BC (fun j hj=>?_);rw[if_neg h2,Wp kept i j hj,if_neg (fun h3=>h2 (hk.up i j hj (by rw[show i*256+j*16=(i*16+j)*16 by omega];exact h3)))];rfl
  rw[this];simp
def B9 (mk:Nat->Bool) (m p:Nat):Nat:=((List.range (m-p)).takeWhile (fun k=>mk (p+k))).length
def By (mk:Nat->Bool) (p:Nat):Bool:=mk p&&(decide (p=0)||!mk (p-1))
def Bs (mk:Nat->Bool) (m n:Nat):List (Nat×Nat):=(List.range n).flatMap (fun p=>if By mk p then [(p,B9 mk m p)] else [])
def C4 (rs:List (Nat×Nat)) (n:Nat):List (Nat×Nat):=match rs.getLast? with
 | some r=>if r.1+r.2=n then rs.dropLast++[(r.1,r.2+1)] else rs++[(n,1)]
 | none=>[(n,1)]
theorem FJ {α:Type} {p:α->Bool}:∀{l:List α},(∀x∈l,p x=true)->l.takeWhile p=l
 | [],_=>rfl
 | x :: r,h=>by rw[List.takeWhile_cons_of_pos (h x (List.mem_cons_self ..)),FJ (fun y hy=>h y (List.mem_cons_of_mem _ hy))]
theorem Ko {α:Type} {p:α->Bool} (l:List α) (x:α):(l++[x]).takeWhile p=if l.all p then l++[x].takeWhile p else l.takeWhile p:=by
 induction l with
 | nil=>simp
 | cons y r ih =>
  cases hy:p y
  ·simp[hy]
  ·rw[List.cons_append,List.takeWhile_cons_of_pos hy,ih,List.all_cons,hy,Bool.true_and];split
   ·rfl
   ·rw[List.takeWhile_cons_of_pos hy]
theorem F7 (mk:Nat->Bool) (m p:Nat) (hp:p<=m):B9 mk (m+1) p=if (∀k,k<m-p->mk (p+k)=true)/\mk m=true then m+1-p else B9 mk m p:=by
 unfold B9;rw[show m+1-p=(m-p)+1 by omega,List.range_succ,Ko];have ha:((List.range (m-p)).all fun k=>mk (p+k))=true↔∀k,k<m-p->mk (p+k)=true:=by
  rw[List.all_eq_true];exact⟨fun h k hk=>h k (List.mem_range.2 hk),fun h k hk=>h k (List.mem_range.1 hk)⟩
 by_cases h1:∀k,k<m-p->mk (p+k)=true
 ·rw[if_pos (ha.2 h1)];have e:p+(m-p)=m:=by omega
  cases h2:mk m
  ·rw[if_neg (fun h=>by cases h.2),List.takeWhile_cons_of_neg (by rw[e,h2];decide),List.append_nil,FJ (fun k hk=>h1 k (List.mem_range.1 hk))]
  ·rw[if_pos ⟨h1,rfl⟩,List.takeWhile_cons_of_pos (by rw[e,h2])];simp
 ·rw[if_neg (fun h=>h1 (ha.1 h)),if_neg (fun h=>h1 h.1)]
theorem Gf (mk:Nat->Bool) (m p:Nat) (h:∀k,k<m-p->mk (p+k)=true):B9 mk m p=m-p:=by
 unfold B9;rw[FJ (fun k hk=>h k (List.mem_range.1 hk)),List.length_range]
theorem GH {α:Type} {p:α->Bool}:∀{l:List α},(∃x∈l,p x=false)->(l.takeWhile p).length<l.length
 | [],h=>by obtain⟨x,hx,_⟩:=h;cases hx
 | y :: r,h=>by
  cases hy:p y
  ·rw[List.takeWhile_cons_of_neg (by rw[hy];decide)];simp
  ·rw[List.takeWhile_cons_of_pos hy,List.length_cons,List.length_cons];have:∃x∈r,p x=false:=by
    obtain⟨x,hx,hp⟩:=h;rcases List.mem_cons.1 hx with e|e
    ·rw[e,hy] at hp;cases hp
    ·exact⟨x,e,hp⟩
   have:=GH this;omega
theorem Nx (mk:Nat->Bool) (m p:Nat) (h:¬∀k,k<m-p->mk (p+k)=true):B9 mk m p<m-p:=by
 unfold B9;have:∃k∈List.range (m-p),mk (p+k)=false:=by
  refine Classical.byContradiction fun hc=>h fun k hk=>?_
  cases hv:mk (p+k)
  ·exact absurd ⟨k,List.mem_range.2 hk,hv⟩ hc
  ·rfl
 have:=GH (p:=fun k=>mk (p+k)) this;rwa [List.length_range] at this
theorem Fl (mk:Nat->Bool) (m n:Nat):Bs mk m (n+1)=Bs mk m n++(if By mk n then [(n,B9 mk m n)] else []):=by
 unfold Bs;rw[List.range_succ,List.flatMap_append];simp
theorem Hu (mk:Nat->Bool):∀m,mk m=true->∃p,p<=m/\By mk p=true/\(∀k,k<m+1-p->mk (p+k)=true)/\∀q,p<q->q<=m->By mk q=false
 | 0,h=>⟨0,Nat.le_refl _,by unfold By;rw[h];rfl,fun k hk=>by rw[show 0+k=0 by omega];exact h,fun q h1 h2=>by omega⟩
 | m+1,h=>by
  cases hm:mk m
  ·refine⟨m+1,Nat.le_refl _,by unfold By;rw[h,Nat.add_sub_cancel,hm];simp,fun k hk=>by rw[show m+1+k=m+1 by omega];exact h,fun q h1 h2=>by omega⟩
  ·obtain⟨p,h1,h2,h3,h4⟩:=Hu mk m hm;refine⟨p,by omega,h2,fun k hk=>?_,fun q hq1 hq2=>?_⟩
   ·by_cases e:k<m+1-p
    ·exact h3 k e
    ·rw[show p+k=m+1 by omega];exact h
   ·by_cases e:q<=m
    ·exact h4 q hq1 e
    ·rw[show q=m+1 by omega];unfold By;rw[Nat.add_sub_cancel,hm];simp
theorem Pd {α:Type} (f:Nat->List α) (m p:Nat) (hp:p<m) (h:∀q,p<q->q<m->f q=[]):(List.range m).flatMap f=(List.range p).flatMap f++f p:=by
 have e:m=p+1+(m-p-1):=by omega
 rw[e,List.range_add,List.flatMap_append,List.range_succ,List.flatMap_append];have:(List.map (fun x=>p+1+x) (List.range (m-p-1))).flatMap f=[]:=by
  rw[List.flatMap_map];have:(List.range (m-p-1)).flatMap (fun x=>f (p+1+x))=(List.range (m-p-1)).flatMap (fun _=>([]:List α)):=BC (fun i hi=>h _ (by omega) (by omega));rw[this];simp
 rw[this];simp
theorem Q5 (mk:Nat->Bool) (m:Nat):Bs mk (m+1) (m+1)=if mk m then C4 (Bs mk m m) m else Bs mk m m:=by
 cases hm:mk m
 ·rw[if_neg (by decide),Fl,if_neg (by unfold By;rw[hm];simp),List.append_nil];unfold Bs;refine BC (fun p hp=>?_);have rl:B9 mk (m+1) p=B9 mk m p:=by rw[F7 mk m p (by omega),if_neg (fun h=>by rw[hm] at h;cases h.2)]
  rw[rl]
 ·rw[if_pos rfl,Fl];rcases Nat.eq_zero_or_pos m with h0|h0
  ·subst h0;rw[if_pos (by unfold By;rw[hm];rfl)];(have:B9 mk (0+1) 0=1:=by rw[Gf mk (0+1) 0 (fun k hk=>by rw[show 0+k=0 by omega];exact hm)]);rw[this];rfl
  ·cases hm1:mk (m-1)
   ·rw[if_pos (by unfold By;rw[hm,hm1];simp)];(have e1:B9 mk (m+1) m=1:=by rw[Gf mk (m+1) m (fun k hk=>by rw[show m+k=m by omega];exact hm)];omega);have nf:∀p,p<m->¬∀k,k<m-p->mk (p+k)=true:=fun p hp h=>by
     have:=h (m-1-p) (by omega);rw[show p+(m-1-p)=m-1 by omega,hm1] at this;cases this
    have e2:Bs mk (m+1) m=Bs mk m m:=by
     unfold Bs;refine BC (fun p hp=>?_);(have rl:B9 mk (m+1) p=B9 mk m p:=by rw[F7 mk m p (by omega),if_neg (fun h=>nf p hp h.1)]);rw[rl]
    rw[e1,e2];unfold C4;cases hl:(Bs mk m m).getLast? with
    | none=>rw[List.getLast?_eq_none_iff] at hl;rw[hl];rfl
    | some r =>
     have hr:r∈Bs mk m m:=List.mem_of_getLast? hl;unfold Bs at hr;obtain⟨p,hp,hr⟩:=List.mem_flatMap.1 hr;have hp':=List.mem_range.1 hp;split at hr
     ·rw[List.mem_singleton] at hr;have:=Nx mk m p (nf p hp');subst hr;dsimp only;rw[if_neg (by omega)]
     ·cases hr
   ·rw[if_neg (by unfold By;rw[hm,hm1];simp;omega),List.append_nil];obtain⟨p,h1,h2,h3,h4⟩:=Hu mk (m-1) hm1;(have h3':∀k,k<m-p->mk (p+k)=true:=fun k hk=>h3 k (by omega));have hsp:∀M,Bs mk M m=Bs mk M p++[(p,B9 mk M p)]:=fun M=>by
     unfold Bs;rw[Pd _ m p (by omega) (fun q hq1 hq2=>by rw[h4 q hq1 (by omega)];rfl),if_pos h2]
    have e2:Bs mk (m+1) p=Bs mk m p:=by
     unfold Bs;refine BC (fun q hq=>?_);have rl:B9 mk (m+1) q=B9 mk m q:=by
      rw[F7 mk m q (by omega),if_neg (fun h=>?_)];have hq1:=h.1 (p-1-q) (by omega);rw[show q+(p-1-q)=p-1 by omega] at hq1;unfold By at h2;rw[hq1] at h2;simp at h2;omega
     rw[rl]
    rw[hsp (m+1),hsp m,e2,Gf mk m p h3',F7 mk m p (by omega),if_pos ⟨h3',hm⟩];unfold C4;rw[List.getLast?_append];simp only[List.getLast?_singleton,Option.some_or];rw[if_pos (by omega),List.dropLast_concat,show m-p+1=m+1-p by omega]
theorem Qy (mk:Nat->Bool):∀m,((List.range m).filter mk).foldl C4 []=Bs mk m m
 | 0=>rfl
 | m+1=>by
  rw[Q5,List.range_succ,List.filter_append,List.foldl_append,Qy mk m];cases hm:mk m
  ·simp[hm]
  ·simp[hm]
end Go.Proofs.YtnmhkgmmpkjjeaaGreat
