import Derived.Test.YtnmhkgmmpkjjeaaGreatM04
namespace Go.Proofs.YtnmhkgmmpkjjeaaGreat
open ChangeShapes WideShapes ChangeAt RowKit Proofs.Tryz
set_option linter.all false
set_option maxRecDepth 100000
section
attribute [local go_sem ↓] wp_at_zero wp_at_succ
def Qe (x:AE):Prop:=-9223372036854775808<=x.page/\x.page<=9223372036854775807/\-9223372036854775808<=x.count/\x.count<=9223372036854775807/\-9223372036854775808<=x.out/\x.out<=9223372036854775807/\-9223372036854775808<=x.perm/\x.perm<=9223372036854775807
def At (x:AE):Bool:=decide (1<=x.count/\0<=x.page/\x.page+x.count<=4096/\0<=x.out/\x.out+x.count<=65536/\1<=x.perm/\x.perm<=7)
theorem BC{x:AE}:At x=true↔(1<=x.count/\0<=x.page/\x.page+x.count<=4096/\0<=x.out/\x.out+x.count<=65536/\1<=x.perm/\x.perm<=7):=by simp[At]
def Bp (a b:AE):Bool:=decide (b.page=a.page+a.count/\b.out=a.out+a.count/\b.perm=a.perm/\b.huge=a.huge)
def D5 (a b:AE):Bool:=decide (a.page+a.count<=b.page)&&!Bp a b
def VS (xs:List AE):Prop:=(∀i,i<xs.length->At (AQ AA xs i)=true)/\∀i,i+1<xs.length->D5 (AQ AA xs i) (AQ AA xs (i+1))=true
def FP (xs:List AE):Bool:=(List.range xs.length).all (fun i=>At (AQ AA xs i))&&(List.range (xs.length-1)).all (fun i=>D5 (AQ AA xs i) (AQ AA xs (i+1)))
theorem Nw{xs:List AE}:FP xs=true↔VS xs:=by
 unfold FP VS;rw[Bool.and_eq_true,List.all_eq_true,List.all_eq_true];exact⟨fun h=>⟨fun i hi=>h.1 i (List.mem_range.2 hi),fun i hi=>h.2 i (List.mem_range.2 (by omega))⟩,fun h=>⟨fun i hi=>h.1 i (List.mem_range.1 hi),fun i hi=>h.2 i (by have:=List.mem_range.1 hi;omega)⟩⟩
theorem Ld{xs:List AE}(h:VS xs):FP xs=true:=Nw.2 h
theorem Mz{xs:List AE}(h:¬VS xs):FP xs=false:=by
 cases hb:FP xs
 ·rfl
 ·exact absurd (Nw.1 hb) h
theorem VS.of_true{xs:List AE}(h:FP xs=true):VS xs:=Nw.1 h
end
structure Ht where
 k:Int
 o:Int
 p:Int
 s:Int
def Ru:Ht:=⟨0,0,0,0⟩
def ID (e:AE) (page:Int):Bool:=decide (e.page<=page/\page<e.page+e.count)
def DO (e:AE) (page:Int):Bool:=e.huge&&decide (e.page<=page-page%16/\page-page%16+16<=e.page+e.count/\(e.out+(page-page%16)-e.page)%16=0)
def IM (e:AE) (page:Int):Ht:=⟨1,e.out+page-e.page,e.perm,if DO e page then 16 else 1⟩
def Dz (xs:List AE) (page:Int):Ht:=match xs.find? (fun e=>ID e page) with
 | some e=>IM e page
 | none=>Ru
theorem PL(page:Int):∀(xs:List AE) (k:Nat),k<xs.length->(∀j,j<k->ID (AQ AA xs j) page=false)->ID (AQ AA xs k) page=true->xs.find? (fun e=>ID e page)=some (AQ AA xs k)
 | [],k,hk,_,_=>absurd hk (by simp)
 | x :: r,0,_,_,h=>by
  have h':ID x page=true:=h;rw[List.find?_cons_of_pos (by exact h')];rfl
 | x :: r,k+1,hk,hn,h=>by
  have h0:ID x page=false:=hn 0 (by omega);rw[List.find?_cons_of_neg (by rw[h0];decide)];exact PL page r k (by simpa using hk) (fun j hj=>hn (j+1) (by omega)) h
theorem Nd(page:Int)(xs:List AE)(k:Nat)(hk:k<xs.length)(hn:∀j,j<k->ID (AQ AA xs j) page=false)(h:ID (AQ AA xs k) page=true):Dz xs page=IM (AQ AA xs k) page:=by
 unfold Dz;rw[PL page xs k hk hn h]
theorem Nl(page:Int)(xs:List AE)(hn:∀j,j<xs.length->ID (AQ AA xs j) page=false):Dz xs page=Ru:=by
 have:xs.find? (fun e=>ID e page)=none:=by
  rw[List.find?_eq_none];intro e he;obtain⟨i,hi,rfl⟩:=List.getElem_of_mem he;have:=hn i hi;unfold AQ at this;rw[List.getD_eq_getElem?_getD,List.getElem?_eq_getElem hi] at this;have h2:ID xs[i] page=false:=this;rw[h2];decide
 unfold Dz;rw[this]
theorem VS.order{xs:List AE}(h:VS xs)(i:Nat):∀d,i+d+1<xs.length->(AQ AA xs i).page+(AQ AA xs i).count<=(AQ AA xs (i+d+1)).page
 | 0,hd=>by
  have:=h.2 i hd;unfold D5 at this;simp only[Bool.and_eq_true,decide_eq_true_eq] at this;exact this.1
 | d+1,hd=>by
  have h1:=VS.order h i d (by omega);have h2:=h.2 (i+d+1) hd;unfold D5 at h2;simp only[Bool.and_eq_true,decide_eq_true_eq] at h2;have h3:=BC.1 (h.1 (i+d+1) (by omega));have e:i+(d+1)+1=i+d+1+1:=by omega
  rw[e];omega
theorem VS.lt{xs:List AE}(h:VS xs)(i j:Nat)(hij:i<j)(hj:j<xs.length):(AQ AA xs i).page+(AQ AA xs i).count<=(AQ AA xs j).page:=by
 have:=h.order i (j-i-1) (by omega);rwa [show i+(j-i-1)+1=j by omega] at this
def EU (xs:List AE) (page:Int) (i:Nat):Bool:=decide (page<(AQ AA xs i).page+(AQ AA xs i).count)
theorem Pl{xs:List AE}(h:VS xs)(page:Int)(a b:Nat)(hab:a<=b)(hb:b<xs.length)(ha:EU xs page a=true):EU xs page b=true:=by
 by_cases e:a=b
 ·rw[<- e];exact ha
 ·have h1:=h.lt a b (by omega) hb;have h2:=BC.1 (h.1 b hb);unfold EU at ha ⊢;simp only[decide_eq_true_eq] at ha ⊢;omega
theorem H7{xs:List AE}(h:VS xs)(page:Int)(r:Nat)(h1:∀t,t<r->EU xs page t=false)(h2:r=xs.length\/(r<xs.length/\EU xs page r=true/\page<(AQ AA xs r).page)):Dz xs page=Ru:=by
 refine Nl page xs (fun j hj=>?_);unfold ID;rw[decide_eq_false_iff_not];by_cases hjr:j<r
 ·have:=h1 j hjr;unfold EU at this;simp only[decide_eq_false_iff_not] at this;omega
 ·rcases h2 with e|⟨hr,he,hp⟩
  ·omega
  ·by_cases e:j=r
   ·rw[e];omega
   ·have h3:=h.lt r j (by omega) hj;have h4:=BC.1 (h.1 r hr);omega
theorem MO{xs:List AE}(page:Int)(r:Nat)(hr:r<xs.length)(h1:∀t,t<r->EU xs page t=false)(he:EU xs page r=true)(hp:(AQ AA xs r).page<=page):Dz xs page=IM (AQ AA xs r) page:=by
 refine Nd page xs r hr (fun j hj=>?_) ?_
 ·have:=h1 j hj;unfold EU at this;simp only[decide_eq_false_iff_not] at this;unfold ID;rw[decide_eq_false_iff_not];omega
 ·unfold EU at he;unfold ID;simp only[decide_eq_true_eq] at he ⊢;exact⟨hp,he⟩
def Me (xs:List AE) (page:Int):Ht:=if FP xs=true/\0<=page/\page<4096 then Dz xs page else Ru
def hB (H:Nat->Ht) (lv p:Nat):Bool:=decide ((H p).k=1/\(lv≠3\/(H p).s=1))
def Ga (lv:Nat):Nat:=if lv=1 then 4096 else if lv=2 then 256 else 16
def Ay (lv:Nat):Nat:=if lv=1 then 256 else if lv=2 then 16 else 1
def nd (H:Nat->Ht) (lv p:Nat):Bool:=decide (lv=1)||(List.range (Ga lv)).any (fun k=>hB H lv (p+k))
theorem Fe(H:Nat->Ht)(p:Nat):nd H 1 p=true:=by unfold nd;rfl
theorem Fi{H:Nat->Ht}{lv p k:Nat}(hk:k<Ga lv)(h:hB H lv (p+k)=true):nd H lv p=true:=by
 unfold nd;rw[Bool.or_eq_true];exact .inr (List.any_eq_true.2 ⟨k,List.mem_range.2 hk,h⟩)
theorem JE{H:Nat->Ht}{lv p:Nat}(hl:lv≠1)(h:∀k,k<Ga lv->hB H lv (p+k)=false):nd H lv p=false:=by
 unfold nd;rw[Bool.or_eq_false_iff];refine⟨decide_eq_false hl,?_⟩;rw[List.any_eq_false];intro k hk;rw[h k (List.mem_range.1 hk)];decide
theorem Re{H:Nat->Ht}{lv p:Nat}(hl:lv≠1)(h:nd H lv p=true):∃k,k<Ga lv/\hB H lv (p+k)=true:=by
 unfold nd at h;rw[Bool.or_eq_true] at h;rcases h with h|h
 ·exact absurd (of_decide_eq_true h) hl
 ·obtain⟨k,hk,h⟩:=List.any_eq_true.1 h;exact⟨k,List.mem_range.1 hk,h⟩
theorem VQ{H:Nat->Ht}{p j:Nat}(hj:j<16)(h:nd H 3 (p+j*16)=true):nd H 2 p=true:=by
 obtain⟨k,hk,hb⟩:=Re (by decide) h;have hk':k<16:=hk;refine Fi (k:=j*16+k) (show j*16+k<256 by omega) ?_;unfold hB at hb ⊢;simp only[decide_eq_true_eq] at hb ⊢;rw[<- Nat.add_assoc];exact⟨hb.1,.inl (by decide)⟩
def st (H:Nat->Ht):Nat->Nat->List (Nat×Nat)
 | 0,p=>if nd H 3 p then [(3,p)] else []
 | f+1,p=>if nd H (2-f) p then (2-f,p) :: (List.range 16).flatMap (fun i=>st H f (p+i*Ay (2-f))) else []
theorem NQ(H:Nat->Ht)(p:Nat):st H 0 p=if nd H 3 p=true then [(3,p)] else []:=by unfold st;rfl
def Es (H:Nat->Ht) (g:Nat):List (Nat×Nat):=(if g%16=0/\nd H 2 (g*16)=true then [(2,g*16)] else [])++st H 0 (g*16)
def AJ (H:Nat->Ht) (g:Nat):List (Nat×Nat):=(1,0) :: (List.range g).flatMap (Es H)
theorem Hc(H:Nat->Ht)(g:Nat):AJ H (g+1)=AJ H g++Es H g:=by
 unfold AJ;rw[List.range_succ,List.flatMap_append];simp
theorem KT(H:Nat->Ht)(p:Nat):(st H 0 p).length<=1:=by unfold st;split<;>simp
theorem Uu(H:Nat->Ht)(g:Nat):(Es H g).length<=2:=by
 unfold Es;rw[List.length_append];have:=KT H (g*16);split<;>simp<;>omega
theorem JL(H:Nat->Ht):∀g,(AJ H g).length<=1+g*2
 | 0=>by simp[AJ]
 | g+1=>by
  rw[Hc,List.length_append];have:=JL H g;have:=Uu H g;omega
theorem NT{α:Type}(f:Nat->List α):∀n,(List.range (n*16)).flatMap f=(List.range n).flatMap (fun i=>(List.range 16).flatMap (fun j=>f (i*16+j)))
 | 0=>by simp
 | n+1=>by
  rw[Nat.add_mul,Nat.one_mul,List.range_add,List.flatMap_append,NT f n,@List.range_succ n,List.flatMap_append,List.flatMap_map];simp
theorem BT{α:Type}{f g:Nat->List α}{n:Nat}(h:∀i,i<n->f i=g i):(List.range n).flatMap f=(List.range n).flatMap g:=by
 induction n with
 | zero=>rfl
 | succ n ih=>rw[List.range_succ,List.flatMap_append,List.flatMap_append,ih (fun i hi=>h i (by omega))];simp[h n (by omega)]
theorem Ym(H:Nat->Ht)(i:Nat):st H 1 (i*256)=(List.range 16).flatMap (fun j=>Es H (i*16+j)):=by
 have e1:st H 1 (i*256)=if nd H 2 (i*256) then (2,i*256) :: (List.range 16).flatMap (fun j=>st H 0 (i*256+j*16)) else []:=rfl;rw[e1];cases h2:nd H 2 (i*256)
 ·symm;rw[if_neg (by decide)];have:(List.range 16).flatMap (fun j=>Es H (i*16+j))=(List.range 16).flatMap (fun _=>([]:List (Nat×Nat))):=by
   refine BT (fun j hj=>?_);unfold Es;have n3:nd H 3 ((i*16+j)*16)=false:=by
    cases h3:nd H 3 ((i*16+j)*16)
    ·rfl
    ·rw[show (i*16+j)*16=i*256+j*16 by omega] at h3;rw[VQ hj h3] at h2;cases h2
   rw[if_neg (by
    rintro⟨hm,hn⟩
    have:j=0:=by omega
    subst this
    rw[show (i*16+0)*16=i*256 by omega,h2] at hn
    cases hn)]
   unfold st;rw[n3];rfl
  rw[this];simp
 ·rw[if_pos (by rfl)];have e2:(2,i*256) :: (List.range 16).flatMap (fun j=>st H 0 (i*256+j*16))=(List.range 16).flatMap (fun j=>(if j=0 then [(2,i*256)] else [])++st H 0 (i*256+j*16)):=by
   rw[show (16:Nat)=15+1 from rfl,List.range_succ_eq_map,List.flatMap_cons,List.flatMap_cons,List.flatMap_map,List.flatMap_map];simp
  rw[e2];refine BT (fun j hj=>?_);unfold Es;rw[show (i*16+j)*16=i*256+j*16 by omega];by_cases hj0:j=0
  ·subst hj0;rw[if_pos rfl,if_pos ⟨by omega,by simpa using h2⟩];simp
  ·rw[if_neg hj0,if_neg (fun h=>hj0 (by omega))]
theorem VF(H:Nat->Ht):st H 2 0=AJ H 256:=by
 have e1:st H 2 0=if nd H 1 0 then (1,0) :: (List.range 16).flatMap (fun i=>st H 1 (0+i*256)) else []:=rfl;rw[e1,Fe,if_pos rfl];unfold AJ;rw[show (256:Nat)=16*16 from rfl,NT];congr 1;refine BT (fun i hi=>?_);rw[<- Ym,Nat.zero_add]
theorem Xc(H:Nat->Ht)(p:Nat):(st H 1 p).length<=17:=by
 have e1:st H 1 p=if nd H 2 p then (2,p) :: (List.range 16).flatMap (fun j=>st H 0 (p+j*16)) else []:=rfl;have hl:∀n,((List.range n).flatMap (fun j=>st H 0 (p+j*16))).length<=n:=by
  intro n;induction n with
  | zero=>simp
  | succ n ih =>
   rw[List.range_succ,List.flatMap_append,List.length_append];have:=KT H (p+n*16);simp at ih ⊢;omega
 rw[e1];split
 ·have:=hl 16;rw[List.length_cons];omega
 ·simp
def PP (H:Nat->Ht) (p:P3):Bool:=nd H p.lv.toNat p.pg.toNat
def B5 (lv pg:Int) (q:P3):Bool:=decide (q.lv=lv/\q.pg=pg)
def AI (qs:List P3) (lv pg:Int):Int:=match qs.find? (B5 lv pg) with
 | some q=>q.fr
 | none=>-1
def BA (qs:List P3) (f:Int):Bool:=qs.any fun q=>decide (q.fr=f)
theorem Fz{qs:List P3}{f:Int}:BA qs f=true↔∃q∈qs,q.fr=f:=by
 unfold BA;rw[List.any_eq_true];exact⟨fun ⟨q,h,e⟩=>⟨q,h,of_decide_eq_true e⟩,fun ⟨q,h,e⟩=>⟨q,h,decide_eq_true e⟩⟩
theorem CS(a b:List P3)(f:Int):BA (a++b) f=(BA a f||BA b f):=by unfold BA;rw[List.any_append]
theorem Ks:∀(f:Nat) (L:List Int),(∀g:Nat,g<f->(g:Int)∈L)->f<=L.length
 | 0,L,_=>Nat.zero_le _
 | f+1,L,h=>by
  have h1:(f:Int)∈L:=h f (by omega);have:=Ks f (L.erase (f:Int)) (fun g hg=>(List.mem_erase_of_ne (by omega)).2 (h g (by omega)));rw[List.length_erase_of_mem h1] at this;have hp:0<L.length:=List.length_pos_of_mem h1;omega
theorem Nm{qs:List P3}{f:Nat}(h:∀g:Nat,g<f->BA qs g=true):f<=qs.length:=by
 have:=Ks f (qs.map (·.fr)) (fun g hg=>by
  obtain⟨q,hq,e⟩:=Fz.1 (h g hg)
  exact List.mem_map.2 ⟨q,hq,e⟩)
 rwa [List.length_map] at this
def FJ (qs:List P3):Nat:=((List.range (qs.length+1)).find? (fun f=>!BA qs (f:Nat))).getD 0
theorem JT{p:Nat->Bool}:∀{n f:Nat},f<n->(∀g,g<f->p g=false)->p f=true->(List.range n).find? p=some f
 | n,f,hf,h1,h2=>by
  have e:n=f+((n-f-1)+1):=by omega
  rw[e,List.range_add,List.find?_append,List.range_succ_eq_map,List.map_cons,List.find?_cons_of_pos (by simpa using h2)];have:(List.range f).find? p=none:=by
   rw[List.find?_eq_none];intro x hx;rw[h1 x (List.mem_range.1 hx)];decide
  rw[this];rfl
theorem Rb{qs:List P3}{f:Nat}(h1:∀g:Nat,g<f->BA qs g=true)(h2:BA qs f=false):FJ qs=f:=by
 unfold FJ;rw[JT (f:=f) (by have:=Nm h1;omega) (fun g hg=>by rw[h1 g hg];rfl) (by rw[h2];rfl)];rfl
theorem WA(qs:List P3):∃f:Nat,f<=qs.length/\(∀g:Nat,g<f->BA qs g=true)/\BA qs f=false:=by
 by_cases h:∃f:Nat,BA qs f=false
 ·obtain⟨f,hf⟩:=h;have:∀n f:Nat,f<=n->BA qs f=false->∃f:Nat,(∀g:Nat,g<f->BA qs g=true)/\BA qs f=false:=by
   intro n;induction n with
   | zero=>intro f h0 h1;exact⟨f,fun g hg=>absurd hg (by omega),h1⟩
   | succ n ih =>
    intro f h0 h1;by_cases hh:∃g:Nat,g<f/\BA qs g=false
    ·obtain⟨g,hg,hg2⟩:=hh;exact ih g (by omega) hg2
    ·refine⟨f,fun g hg=>?_,h1⟩;cases hc:BA qs g
     ·exact absurd ⟨g,hg,hc⟩ hh
     ·rfl
  obtain⟨f,h1,h2⟩:=this f f (Nat.le_refl _) hf;exact⟨f,Nm h1,h1,h2⟩
 ·have:qs.length+1<=qs.length:=Nm (fun g _=>by
   cases hc:BA qs g
   ·exact absurd ⟨g,hc⟩ h
   ·rfl)
  omega
theorem Fu(qs:List P3):FJ qs<=qs.length/\(∀g:Nat,g<FJ qs->BA qs g=true)/\BA qs (FJ qs:Nat)=false:=by
 obtain⟨f,h0,h1,h2⟩:=WA qs;rw[Rb h1 h2];exact⟨h0,h1,h2⟩
def EF (kept fs:List P3) (s:Nat×Nat):List P3:=if AI kept s.1 s.2<0 then fs++[⟨(FJ (kept++fs):Nat),s.1,s.2⟩] else fs
def Bd (kept:List P3) (ws:List (Nat×Nat)) (k:Nat):List P3:=(ws.take k).foldl (EF kept) []
theorem DE(kept:List P3)(ws:List (Nat×Nat)):Bd kept ws 0=[]:=by unfold Bd;simp
theorem De(kept:List P3)(ws:List (Nat×Nat))(k:Nat)(h:k<ws.length):Bd kept ws (k+1)=EF kept (Bd kept ws k) ws[k]:=by
 unfold Bd;rw[List.take_succ_eq_append_getElem h,List.foldl_append];rfl
theorem FD(kept:List P3)(ws:List (Nat×Nat)):∀k,k<=ws.length->(Bd kept ws k).length<=k
 | 0,_=>by rw[DE];simp
 | k+1,h=>by
  have:=FD kept ws k (by omega);rw[De kept ws k (by omega)];unfold EF;split<;>simp<;>omega
theorem Em{qs:List P3}{lv pg:Int}(h:∀q∈qs,¬(q.lv=lv/\q.pg=pg)):AI qs lv pg=-1:=by
 unfold AI;have:qs.find? (B5 lv pg)=none:=by
  rw[List.find?_eq_none];intro q hq;unfold B5;rw[decide_eq_false (h q hq)];decide
 rw[this]
theorem Co{qs:List P3}{lv pg:Int}(h:0<=AI qs lv pg):∃q∈qs,q.lv=lv/\q.pg=pg/\q.fr=AI qs lv pg:=by
 unfold AI at h ⊢;cases hf:qs.find? (B5 lv pg) with
 | none=>rw[hf] at h;simp at h
 | some q =>
  have:=List.find?_some hf;unfold B5 at this;have h2:=of_decide_eq_true this;exact⟨q,List.mem_of_find?_eq_some hf,h2.1,h2.2,rfl⟩
theorem KF{a b:List P3}{lv pg:Int}:AI (a++b) lv pg=if (a.find? (B5 lv pg)).isSome then AI a lv pg else AI b lv pg:=by
 unfold AI;rw[List.find?_append];cases a.find? (B5 lv pg)<;>rfl
theorem Ho{w:World}{b cap:Nat}{a:Option Addr}{xs:List AE}(h:A8 AA w b (.slice a xs.length cap) xs):∃g,(0<xs.length->a=some ⟨g,0,none⟩/\g<w.heap.size)/\∀k P C O R G,k<xs.length->AQ AA xs k=⟨P,C,O,R,G⟩->∀wX,Bl w wX->wX.cell? ⟨g,k*5,none⟩=some (.int .i64 P)/\wX.cell? ⟨g,k*5+1,none⟩=some (.int .i64 C)/\wX.cell? ⟨g,k*5+2,none⟩=some (.int .i64 O)/\wX.cell? ⟨g,k*5+3,none⟩=some (.int .i64 R)/\wX.cell? ⟨g,k*5+4,none⟩=some (.bool G):=by
 obtain⟨a',c',e,hf⟩:=h.form;simp only[Value.slice.injEq] at e;obtain⟨rfl,_,_⟩:=e;by_cases h0:0<xs.length
 ·obtain⟨g,N,f,rfl,_,hr,hN,hc⟩:=hf h0;have hN':xs.length*5<=N:=hN;refine⟨g,fun _=>⟨rfl,hr.lt⟩,fun k P C O R G hk he wX hX=>?_⟩;have hr1:wX.rowIs g 103 N f:=hr.of_block (hX.block g hr.lt);have c:∀j,j<5->wX.cell? ⟨g,k*5+j,none⟩=some (CM AA xs k j):=fun j hj=>by
   rw[hr1.cell (by omega)];exact congrArg some (hc k hk j hj)
  have e0:∀j,CM AA xs k j=((AA.enc ⟨P,C,O,R,G⟩)[j]?).getD (.bool false):=fun j=>by unfold CM;rw[he]
  exact⟨(c 0 (by omega)).trans (by rw[e0];rfl),(c 1 (by omega)).trans (by rw[e0];rfl),(c 2 (by omega)).trans (by rw[e0];rfl),(c 3 (by omega)).trans (by rw[e0];rfl),(c 4 (by omega)).trans (by rw[e0];rfl)⟩
 ·exact⟨0,fun h=>absurd h h0,fun k P C O R G hk=>absurd hk (by omega)⟩
section
attribute [local go_sem ↓] wp_at_zero wp_at_succ
theorem Nr(p c o r:Int)(g:Bool)(w:World)(hw:Qe ⟨p,c,o,r,g⟩):Calls prog 117 #[.agg #[.int .i64 p,.int .i64 c,.int .i64 o,.int .i64 r,.bool g]] w (AM w (.bool (At ⟨p,c,o,r,g⟩))):=by
 obtain⟨hp1,hp2,hc1,hc2,ho1,ho2,hr1,hr2⟩:=hw;dsimp only at hp1 hp2 hc1 hc2 ho1 ho2 hr1 hr2;by_cases h0:c<1
 ·have hr:At ⟨p,c,o,r,g⟩=false:=decide_eq_false (by dsimp only;omega);rw[hr];clear hr;go_enter func117,ntmps117
  go_wp2_with fail
  go_ret;exact⟨rfl,AO⟩
 ·by_cases h1:4096<c
  ·have hr:At ⟨p,c,o,r,g⟩=false:=decide_eq_false (by dsimp only;omega);rw[hr];clear hr;(go_enter func117,ntmps117);(go_wp2_with fail);go_ret;exact⟨rfl,AO⟩
  ·by_cases h2:r<1
   ·have hr:At ⟨p,c,o,r,g⟩=false:=decide_eq_false (by dsimp only;omega);rw[hr];clear hr;(go_enter func117,ntmps117);(go_wp2_with fail);go_ret;exact⟨rfl,AO⟩
   ·by_cases h3:7<r
    ·have hr:At ⟨p,c,o,r,g⟩=false:=decide_eq_false (by dsimp only;omega);rw[hr];clear hr;(go_enter func117,ntmps117);(go_wp2_with fail);go_ret;exact⟨rfl,AO⟩
    ·by_cases h4:p<0
     ·have hr:At ⟨p,c,o,r,g⟩=false:=decide_eq_false (by dsimp only;omega);rw[hr];clear hr;(go_enter func117,ntmps117);(go_wp2_with fail);go_ret;exact⟨rfl,AO⟩
     ·by_cases h5:4096<=p
      ·have hr:At ⟨p,c,o,r,g⟩=false:=decide_eq_false (by dsimp only;omega);rw[hr];clear hr;(go_enter func117,ntmps117);(go_wp2_with fail);go_ret;exact⟨rfl,AO⟩
      ·by_cases h6:4096<p+c
       ·have hr:At ⟨p,c,o,r,g⟩=false:=decide_eq_false (by dsimp only;omega);rw[hr];clear hr;(go_enter func117,ntmps117);(go_wp2_with fail);go_ret;exact⟨rfl,AO⟩
       ·by_cases h7:0<=o
        ·by_cases h8:o<65536
         ·by_cases h9:o+c<=65536
          ·have hr:At ⟨p,c,o,r,g⟩=true:=decide_eq_true (by dsimp only;omega);rw[hr];clear hr;(go_enter func117,ntmps117);(go_wp2_with fail);go_ret;exact⟨rfl,AO⟩
          ·have hr:At ⟨p,c,o,r,g⟩=false:=decide_eq_false (by dsimp only;omega);rw[hr];clear hr;(go_enter func117,ntmps117);(go_wp2_with fail);go_ret;exact⟨rfl,AO⟩
         ·have hr:At ⟨p,c,o,r,g⟩=false:=decide_eq_false (by dsimp only;omega);rw[hr];clear hr;(go_enter func117,ntmps117);(go_wp2_with fail);go_ret;exact⟨rfl,AO⟩
        ·have hr:At ⟨p,c,o,r,g⟩=false:=decide_eq_false (by dsimp only;omega);rw[hr];clear hr;(go_enter func117,ntmps117);(go_wp2_with fail);go_ret;exact⟨rfl,AO⟩
theorem MG(p c o r:Int)(g:Bool)(w:World)(hw:Qe ⟨p,c,o,r,g⟩):Calls prog 106 #[.agg #[.int .i64 p,.int .i64 c,.int .i64 o,.int .i64 r,.bool g]] w (AM w (.bool (At ⟨p,c,o,r,g⟩))):=by
 obtain⟨hp1,hp2,hc1,hc2,ho1,ho2,hr1,hr2⟩:=hw;dsimp only at hp1 hp2 hc1 hc2 ho1 ho2 hr1 hr2;by_cases h0:1<=c
 ·by_cases h1:0<=p
  ·by_cases h2:p<=4096-c
   ·by_cases h3:0<=o
    ·by_cases h4:o<=65536-c
     ·by_cases h5:1<=r
      ·by_cases h6:r<=7
       ·have hr:At ⟨p,c,o,r,g⟩=true:=decide_eq_true (by dsimp only;omega);rw[hr];clear hr;(go_enter func106,ntmps106);(go_wp2_with fail);go_ret;exact⟨rfl,AO⟩
       ·have hr:At ⟨p,c,o,r,g⟩=false:=decide_eq_false (by dsimp only;omega);rw[hr];clear hr;(go_enter func106,ntmps106);(go_wp2_with fail);go_ret;exact⟨rfl,AO⟩
      ·have hr:At ⟨p,c,o,r,g⟩=false:=decide_eq_false (by dsimp only;omega);rw[hr];clear hr;(go_enter func106,ntmps106);(go_wp2_with fail);go_ret;exact⟨rfl,AO⟩
     ·have hr:At ⟨p,c,o,r,g⟩=false:=decide_eq_false (by dsimp only;omega);rw[hr];clear hr;(go_enter func106,ntmps106);(go_wp2_with fail);go_ret;exact⟨rfl,AO⟩
    ·have hr:At ⟨p,c,o,r,g⟩=false:=decide_eq_false (by dsimp only;omega);rw[hr];clear hr;(go_enter func106,ntmps106);(go_wp2_with fail);go_ret;exact⟨rfl,AO⟩
   ·have hr:At ⟨p,c,o,r,g⟩=false:=decide_eq_false (by dsimp only;omega);rw[hr];clear hr;(go_enter func106,ntmps106);(go_wp2_with fail);go_ret;exact⟨rfl,AO⟩
  ·have hr:At ⟨p,c,o,r,g⟩=false:=decide_eq_false (by dsimp only;omega);rw[hr];clear hr;(go_enter func106,ntmps106);(go_wp2_with fail);go_ret;exact⟨rfl,AO⟩
 ·have hr:At ⟨p,c,o,r,g⟩=false:=decide_eq_false (by dsimp only;omega);rw[hr];clear hr;go_enter func106,ntmps106
  go_wp2_with fail
  go_ret;exact⟨rfl,AO⟩
end
end Go.Proofs.YtnmhkgmmpkjjeaaGreat
