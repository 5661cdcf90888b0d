import Derived.Test.YtnmhkgmmpkjjeabGreatE13
namespace Go.Proofs.YtnmhkgmmpkjjeabGreat
open ChangeShapes WideShapes ChangeAt RowKit Proofs.Tryz
set_option linter.all false
set_option maxRecDepth 100000
set_option maxHeartbeats 4000000
def Nb (M:A9) (i j:Nat):Bool:=BM (A8 A7 M.tlb i).page (A8 A7 M.tlb i).size (A8 A7 M.tlb j).page (A8 A7 M.tlb j).size&&!BH (A8 A7 M.tlb i) (A8 A7 M.tlb j)
def NZ (M:A9):Bool:=BW (fun j=>BW (fun i=>Nb M i j) j) M.tlb.length
def No (M:A9):Bool:=AG M&&NZ M
theorem Hf(f:Nat->Bool):∀n,(∀i,i<n->f i=false)->BW f n=false
 | 0,_=>rfl
 | n+1,h=>by rw[Ck,Hf f n (fun i hi=>h i (by omega)),h n (by omega)];rfl
theorem GT(a b:Am):BH a b=BH b a:=by
 unfold BH;rw[Bool.eq_iff_iff];simp only[Bool.and_eq_true,decide_eq_true_eq];constructor<;>(rintro⟨⟨⟨h1,h2⟩,h3⟩,h4⟩;exact⟨⟨⟨h1.symm,h2.symm⟩,h3.symm⟩,h4.symm⟩)
structure Js (e:Am):Prop where
 p0:0<=e.page
 p1:e.page<4096
 s:e.size=1\/e.size=16
 m:e.page%e.size=0
theorem G2{M:A9}(hv:AG M=true)(i:Nat)(hi:i<M.tlb.length):Js (A8 A7 M.tlb i):=by
 have h1:=CV hv i hi;unfold AH at h1;simp only[Bool.and_eq_true,Bool.or_eq_true,decide_eq_true_eq] at h1;have h2:0<=(A8 A7 M.tlb i).page/\(A8 A7 M.tlb i).page<4096:=by simpa [AP] using h1.1.1.1.1.1.1.2
 exact⟨h2.1,h2.2,h1.1.1.1.1.1.1.1,h1.1.1.1.1.1.2⟩
theorem NC{e:Am}(he:Js e)(p:Int)(hp:0<=p):AY e p=true↔e.page<=p/\p<e.page+e.size:=by
 unfold AY;have hm:=he.m;rcases he.s with h|h<;>rw[h] at hm ⊢<;>simp only[decide_eq_true_eq]<;>omega
def zM:A9:=⟨[],[],[],[]⟩
def zS:SV:=⟨none,0,none,0,none,0,none,0⟩
theorem A6.nilz{α:Type}(E:DL α)(w:World)(b:Nat):A6 E w b (.slice none 0 0) []:=⟨by simp[AF],.inl ⟨rfl,rfl⟩⟩
theorem By(w:World)(b:Nat):AB w b (zS.mv zM) zM:=⟨A6.nilz _ _ _,A6.nilz _ _ _,A6.nilz _ _ _,A6.nilz _ _ _⟩
theorem Cr:(zS.mv zM).apart:=fun k=>⟨fun h=>(by cases h),fun h=>(by cases h),fun h=>(by cases h)⟩
theorem Ga:zM.Small:=⟨by simp[zM],by simp[zM],by simp[zM],by simp[zM]⟩
def EB (M:A9) (page choice:Int):A9:=if AG M&&AP page&&Ax choice then (Ah M page choice).1 else zM
theorem J5{M:A9}(h:Cv M)(page choice:Int):Cv (Ah M page choice).1:=MW page choice _ h _ _ _
structure Cz where
 page:Int
 need:Int
 kind:Int
 out:Int
def Cg (x:Cz):Value:=.agg #[.int .i64 x.page,.int .i64 x.need,.int .i64 x.kind,.int .i64 x.out]
def Ap (n:Int):Bool:=decide (n=1)||decide (n=2)||decide (n=4)
def Ef (page need out perm:Int):Cz:=if perm/need%2=1 then ⟨page,need,1,out⟩ else ⟨page,need,2,0⟩
def Bs (page need:Int) (h:IR):Cz:=if h.kind=1 then Ef page need h.out h.perm else ⟨page,need,h.kind,0⟩
def BL (M:A9) (page:Int):Nat:=CW (fun i=>AY (A8 A7 M.tlb i) page) M.tlb.length 0
def Do (M:A9) (page:Int):Bool:=BW (fun j=>AY (A8 A7 M.tlb j) page&&!BH (A8 A7 M.tlb (BL M page)) (A8 A7 M.tlb j)) M.tlb.length
def NH (e:Am) (page:Int):IR:=⟨1,e.out+page-e.page,e.perm,e.size⟩
def BG (M:A9) (page:Int):IR:=if Do M page then ⟨4,0,0,0⟩ else NH (A8 A7 M.tlb (BL M page)) page
def JK (M:A9) (page choice:Int):Bool:=BT choice 7&&decide (BL M page<M.tlb.length)
def Cw (M:A9) (page choice:Int):A9:=if JK M page choice then M else (Ah M page choice).1
def DY (M:A9) (page need choice:Int):Cz:=Bs page need (if JK M page choice then BG M page else (Ah M page choice).2)
def FI (M:A9) (page need choice:Int):Bool:=AG M&&AP page&&Ax choice&&Ap need
def CZ (M:A9) (page need choice:Int):A9×Cz:=if FI M page need choice then (Cw M page choice,DY M page need choice) else (zM,⟨0,0,0,0⟩)
theorem GB{M:A9}(hk:H6 M)(hs:M.Small)(page need choice:Int):(CZ M page need choice).1.Small:=by
 unfold CZ;split
 ·rename_i h;have hv:AG M=true:=by
   unfold FI at h;simp only[Bool.and_eq_true] at h;exact h.1.1.1
  show (Cw M page choice).Small;unfold Cw;split
  ·exact hs
  ·exact(J5 (Cv.of hk hv) page choice).small
 ·exact Ga
theorem Hi(l x:Int):0<=Bq l x/\Bq l x<=7:=by unfold Bq;split<;>omega
theorem Hk(page choice:Int)(M:A9)(level x:Int)(doom:Bool):0<=(DN page choice M level x doom).2.perm/\(DN page choice M level x doom).2.perm<=7:=by
 unfold DN;have:=Hi level x;split
 ·exact⟨by simp,by simp⟩
 ·split
  ·exact this
  ·exact⟨by simp,by simp⟩
theorem JO(page choice:Int):∀d M level frame doom,0<=(Fg page choice d M level frame doom).2.perm/\(Fg page choice d M level frame doom).2.perm<=7
 | 0,M,level,frame,doom=>Hk page choice M level _ doom
 | d+1,M,level,frame,doom=>by
  unfold Fg;split
  ·exact JO page choice d _ _ _ _
  ·exact Hk page choice M level _ doom
theorem GC(M:A9)(page choice:Int):0<=(Ah M page choice).2.perm/\(Ah M page choice).2.perm<=7:=JO page choice _ _ _ _ _
theorem Db{M:A9}{page:Int}(t:Nat)(ht:t<M.tlb.length)(hf:∀j,j<t->AY (A8 A7 M.tlb j) page=false)(h:AY (A8 A7 M.tlb t) page=true):BL M page=t:=Hj _ _ _ ht hf h
theorem Fi{M:A9}{page:Int}(hf:∀j,j<M.tlb.length->AY (A8 A7 M.tlb j) page=false):BL M page=M.tlb.length:=DS _ _ hf
theorem Hc{M:A9}{page:Int}(t:Nat)(ht:t<M.tlb.length)(h:AY (A8 A7 M.tlb t) page=true)(hd:BH (A8 A7 M.tlb (BL M page)) (A8 A7 M.tlb t)=false):Do M page=true:=BF _ t _ ht (by simp[h,hd])
theorem It{M:A9}{page:Int}(h:∀t,t<M.tlb.length->AY (A8 A7 M.tlb t) page=true->BH (A8 A7 M.tlb (BL M page)) (A8 A7 M.tlb t)=true):Do M page=false :=
 Hf _ _ (fun t ht=>by
  cases hc:AY (A8 A7 M.tlb t) page
  ·simp
  ·simp[h t ht hc])
theorem Jp(e:Am):BH e e=true:=by simp[BH]
theorem A5.none{S:Nat->Prop}(a:World):A5 S a a:=⟨rfl,rfl,rfl,Nat.le_refl _,fun _ _ _=>rfl⟩
theorem A5.put{S:Nat->Prop}{a w:World}(h:A5 S a w)(p:Addr)(v:Value)(hp:S p.block):A5 S a (w.setCell p v) :=
 ⟨h.os,h.tape,h.output,by simpa using h.size,fun k hk hn=>(Below.heap_setCell _ _ _ _ (fun e=>hn (by rw[e];exact hp))).trans (h.block k hk hn)⟩
def AI {α:Type} (E:DL α) (c:Bool) (i:Int) (xs:List α):Nat->List α
 | 0=>[]
 | k+1=>if c&&decide ((k:Int)=i) then AI E c i xs k else AI E c i xs k++[A8 E xs k]
theorem Dz{α:Type}(E:DL α)(i:Int)(xs:List α)(k:Nat)(h:(k:Int)=i):AI E true i xs (k+1)=AI E true i xs k:=by
 conv=>lhs;unfold AI
 rw[if_pos (by simp[h])]
theorem DV{α:Type}(E:DL α)(c:Bool)(i:Int)(xs:List α)(k:Nat)(h:c=false\/¬(k:Int)=i):AI E c i xs (k+1)=AI E c i xs k++[A8 E xs k]:=by
 conv=>lhs;unfold AI
 rw[if_neg];simp only[Bool.and_eq_true,decide_eq_true_eq,not_and];rcases h with h|h
 ·intro h2;rw[h] at h2;cases h2
 ·intro _;exact h
theorem DG{α:Type}(E:DL α)(c:Bool)(i:Int)(xs:List α):∀k,(AI E c i xs k).length<=k
 | 0=>Nat.le_refl _
 | k+1=>by
  unfold AI;have:=DG E c i xs k;split
  ·omega
  ·simp;omega
theorem Dy{α:Type}(E:DL α)(c:Bool)(i:Int)(xs:List α):∀k,k<=xs.length->(c=false\/i<0\/(k:Int)<=i)->AI E c i xs k=xs.take k
 | 0,_,_=>by simp[AI]
 | k+1,hk,h=>by
  rw[DV E c i xs k (by rcases h with h|h|h<;>first|exact .inl h|(right;omega)),Dy E c i xs k (by omega) (by rcases h with h|h|h<;>first|exact .inl h|(right;omega)),GD E xs k (by omega)]
theorem Fe{α:Type}(E:DL α)(j:Nat)(xs:List α)(hj:j<xs.length):∀k,j+k+1<=xs.length->AI E true (j:Int) xs (j+k+1)=xs.take j++(xs.drop (j+1)).take k
 | 0,_=>by
  rw[Nat.add_zero,Dz E _ xs j rfl,Dy E true _ xs j (by omega) (by right;right;omega)];simp
 | k+1,h=>by
  rw[show j+(k+1)+1=(j+k+1)+1 by omega,DV E true _ xs (j+k+1) (by right;omega),Fe E j xs hj k (by omega),List.append_assoc];congr 1;have hk:k<(xs.drop (j+1)).length:=by rw[List.length_drop];omega
  rw[List.take_succ_eq_append_getElem hk];congr 1;simp only[List.getElem_drop,List.cons.injEq,and_true];have e:j+1+k=j+k+1:=by omega
  simp[A8,e,show j+k+1<xs.length by omega]
theorem H8{α:Type}(E:DL α)(j:Nat)(xs:List α)(hj:j<xs.length):AI E true (j:Int) xs xs.length=xs.take j++xs.drop (j+1):=by
 obtain⟨k,hk⟩:∃k,xs.length=j+k+1:=⟨xs.length-j-1,by omega⟩
 have h:=Fe E j xs hj k (by omega);rw[<- hk] at h;rw[h,List.take_of_length_le (l:=xs.drop (j+1)) (by rw[List.length_drop];omega)]
theorem Cn{α:Type}(E:DL α)(c:Bool)(i:Int)(xs:List α)(h:c=false\/i<0\/(xs.length:Int)<=i):AI E c i xs xs.length=xs:=by
 rw[Dy E c i xs xs.length (Nat.le_refl _) h,List.take_length]
theorem A6.snocL{α:Type}{E:DL α}{w:World}{B:Nat}{v:Value}{ys:List α}{x:α}{m:Nat}(hm:m=ys.length+1)(h:w.ownsRow B E.T E.sz v m (AF E ys++E.enc x)):A6 E w B v (ys++[x]):=by
 unfold A6;have e2:AF E (ys++[x])=AF E ys++E.enc x:=by
  rw[C8];simp[AF]
 rw[List.length_append,e2];rw[hm] at h;exact h
def EA (M:A9) (which i:Int):A9:=if AG M then ⟨M.mem,M.pend,AI A7 (decide (which=0)) i M.tlb M.tlb.length,AI AJ (decide (which=1)) i M.wc M.wc.length⟩ else zM
section
attribute [local go_sem ↓] wp_at_zero wp_at_succ
def BV (M:A9) (page:Int):Nat->List Am
 | 0=>[]
 | k+1=>if AY (A8 A7 M.tlb k) page then BV M page k++[A8 A7 M.tlb k] else BV M page k
theorem D9{M:A9}{page:Int}{k:Nat}(h:AY (A8 A7 M.tlb k) page=true):BV M page (k+1)=BV M page k++[A8 A7 M.tlb k]:=by
 conv=>lhs;unfold BV
 rw[if_pos h]
theorem Dx{M:A9}{page:Int}{k:Nat}(h:AY (A8 A7 M.tlb k) page=false):BV M page (k+1)=BV M page k:=by
 conv=>lhs;unfold BV
 rw[if_neg (by rw[h];simp)]
theorem Hh(M:A9)(page:Int):∀k,(BV M page k).length<=k
 | 0=>Nat.le_refl _
 | k+1=>by
  unfold BV;have:=Hh M page k;split
  ·simp;omega
  ·omega
theorem FT{M:A9}{page:Int}{x:Am}:∀t,x∈BV M page t->∃j,j<t/\x=A8 A7 M.tlb j/\AY (A8 A7 M.tlb j) page=true
 | 0,h=>by simp[BV] at h
 | k+1,h=>by
  cases hc:AY (A8 A7 M.tlb k) page
  ·rw[Dx hc] at h;obtain⟨j,a,b,c⟩:=FT k h;exact⟨j,by omega,b,c⟩
  ·rw[D9 hc,List.mem_append] at h;rcases h with h|h
   ·obtain⟨j,a,b,c⟩:=FT k h;exact⟨j,by omega,b,c⟩
   ·exact⟨k,by omega,by simpa using h,hc⟩
theorem JC{M:A9}{page:Int}(j:Nat)(hc:AY (A8 A7 M.tlb j) page=true):∀t,j<t->A8 A7 M.tlb j∈BV M page t
 | 0,h=>by omega
 | k+1,h=>by
  by_cases hj:j=k
  ·subst hj;rw[D9 hc];simp
  ·have h1:=JC j hc k (by omega);cases hk:AY (A8 A7 M.tlb k) page
   ·rw[Dx hk];exact h1
   ·rw[D9 hk];exact List.mem_append_left _ h1
theorem FK{M:A9}{page:Int}:∀t,(∀j,j<t->AY (A8 A7 M.tlb j) page=false)->BV M page t=[]
 | 0,_=>rfl
 | k+1,h=>by rw[Dx (h k (by omega)),FK k (fun j hj=>h j (by omega))]
theorem GF{M:A9}{page:Int}(f:Nat)(hf:AY (A8 A7 M.tlb f) page=true)(hn:∀j,j<f->AY (A8 A7 M.tlb j) page=false):∀t,f<t->∃r,BV M page t=A8 A7 M.tlb f :: r
 | 0,h=>by omega
 | k+1,h=>by
  by_cases hj:f=k
  ·subst hj;exact⟨[],by rw[D9 hf,FK f hn];rfl⟩
  ·obtain⟨r,hr⟩:=GF f hf hn k (by omega);cases hk:AY (A8 A7 M.tlb k) page
   ·exact⟨r,by rw[Dx hk,hr]⟩
   ·exact⟨r++[A8 A7 M.tlb k],by rw[D9 hk,hr];rfl⟩
structure JP (M:A9) (page:Int) (cs:List Am):Prop where
 nil:cs.length=0->¬BL M page<M.tlb.length
 pos:0<cs.length->BL M page<M.tlb.length/\A8 A7 cs 0=A8 A7 M.tlb (BL M page)
 bad:∀i,i<cs.length->BH (A8 A7 cs 0) (A8 A7 cs i)=false->Do M page=true
 good:(∀i,i<cs.length->BH (A8 A7 cs 0) (A8 A7 cs i)=true)->0<cs.length->Do M page=false
theorem Mz{cs:List Am}{i:Nat}(h:i<cs.length):A8 A7 cs i∈cs:=by
 unfold A8;rw[List.getD_eq_getElem?_getD,List.getElem?_eq_getElem h];exact List.getElem_mem h
theorem Mh{cs:List Am}{x:Am}(h:x∈cs):∃i,i<cs.length/\A8 A7 cs i=x:=by
 obtain⟨i,hi,e⟩:=List.mem_iff_getElem.1 h;exact⟨i,hi,by unfold A8;rw[List.getD_eq_getElem?_getD,List.getElem?_eq_getElem hi];exact e⟩
theorem NR(M:A9)(page:Int):JP M page (BV M page M.tlb.length):=by
 by_cases h:∀j,j<M.tlb.length->AY (A8 A7 M.tlb j) page=false
 ·have e:=FK _ h;have hf:=Fi h;rw[e];exact⟨fun _=>by omega,fun h'=>by simp at h',fun i hi=>by simp at hi,fun _ h'=>by simp at h'⟩
 ·have hlt:BL M page<M.tlb.length:=by
   refine Nat.lt_of_not_le (fun hge=>h (fun j hj=>?_));cases hc:AY (A8 A7 M.tlb j) page
   ·rfl
   ·exfalso;have hex:∃t,t<M.tlb.length/\AY (A8 A7 M.tlb t) page=true/\∀i,i<t->AY (A8 A7 M.tlb i) page=false:=by
     have:∀n,(∃t,t<=n/\t<M.tlb.length/\AY (A8 A7 M.tlb t) page=true)->∃t,t<M.tlb.length/\AY (A8 A7 M.tlb t) page=true/\∀i,i<t->AY (A8 A7 M.tlb i) page=false:=by
      intro n;induction n with
      | zero =>
       rintro⟨t,h0,h1,h2⟩;exact⟨t,h1,h2,fun i hi=>by omega⟩
      | succ n ih =>
       rintro⟨t,h0,h1,h2⟩;by_cases hx:∃t',t'<=n/\t'<M.tlb.length/\AY (A8 A7 M.tlb t') page=true
       ·exact ih hx
       ·refine⟨t,h1,h2,fun i hi=>?_⟩;cases hi2:AY (A8 A7 M.tlb i) page
        ·rfl
        ·exact absurd ⟨i,by omega,by omega,hi2⟩ hx
     exact this j ⟨j,Nat.le_refl _,hj,hc⟩
    obtain⟨t,h1,h2,h3⟩:=hex;have:=Db t h1 h3 h2;omega
  have hcov:AY (A8 A7 M.tlb (BL M page)) page=true:=G5 (fun i=>AY (A8 A7 M.tlb i) page) M.tlb.length 0 (by simpa [BL] using hlt);have hbef:∀j,j<BL M page->AY (A8 A7 M.tlb j) page=false:=by
   intro j hj;cases hc:AY (A8 A7 M.tlb j) page
   ·rfl
   ·exfalso;have:∀n,(∃t,t<=n/\t<BL M page/\AY (A8 A7 M.tlb t) page=true)->False:=by
     intro n;induction n with
     | zero =>
      rintro⟨t,h0,h1,h2⟩;have:=Db t (by omega) (fun i hi=>by omega) h2;omega
     | succ n ih =>
      rintro⟨t,h0,h1,h2⟩;by_cases hx:∃t',t'<=n/\t'<BL M page/\AY (A8 A7 M.tlb t') page=true
      ·exact ih hx
      ·have:=Db t (by omega) (fun i hi=>by
        cases hi2:AY (A8 A7 M.tlb i) page
        ·rfl
        ·exact absurd ⟨i,by omega,by omega,hi2⟩ hx) h2
       omega
    exact this j ⟨j,Nat.le_refl _,hj,hc⟩
  obtain⟨r,hr⟩:=GF _ hcov hbef M.tlb.length hlt;have h0:A8 A7 (BV M page M.tlb.length) 0=A8 A7 M.tlb (BL M page):=by rw[hr];rfl
  refine⟨fun e=>by rw[hr] at e;simp at e,fun _=>⟨hlt,h0⟩,fun i hi hs=>?_,fun hs _=>?_⟩
  ·obtain⟨j,a,b,c⟩:=FT _ (Mz hi);refine Hc j a c ?_;rw[<- b,<- h0];exact hs
  ·refine It (fun t ht hc=>?_);obtain⟨i,hi,e⟩:=Mh (JC t hc _ ht);rw[<- h0,<- e];exact hs i hi
theorem JS(perm need:Int)(hp0:0<=perm)(hp1:perm<=7)(hn:Ap need=true)(w:World):Calls prog 90 #[.int .i64 perm,.int .i64 need] w fun e w'=>e=.returned (.bool (decide (perm/need%2=1)))/\w'=w:=by
 have hnz:need=1\/need=2\/need=4:=by
  unfold Ap at hn;simp only[Bool.or_eq_true,decide_eq_true_eq] at hn;omega
 have T1:perm.tdiv need=perm/need:=Int.tdiv_eq_ediv_of_nonneg hp0;have T2:0<=perm/need:=by rcases hnz with h|h|h<;>subst h<;>omega
 have T3:(perm/need).tmod 2=perm/need%2:=Int.tmod_eq_emod_of_nonneg T2;have N0:¬need=0:=by omega
 have N0':(need==0)=false:=by simpa using N0
 have W1:IntKind.i64.wrap (perm/need)=perm/need:=by rw[IntKind.wrap_i64];rcases hnz with h|h|h<;>subst h<;>omega
 by_cases hx:perm/need%2=1
 ·have hx':(perm/need%2==1)=true:=by simpa using hx
  rw[decide_eq_true hx];clear hx hn hnz;go_enter func90,ntmps90
  go_wp2
  go_ret;exact⟨rfl,rfl⟩
 ·have hx':(perm/need%2==1)=false:=by simpa using hx
  rw[decide_eq_false hx];clear hx hn hnz;go_enter func90,ntmps90
  go_wp2
  go_ret;exact⟨rfl,rfl⟩
theorem GX(page need out perm:Int)(hp0:0<=perm)(hp1:perm<=7)(hn:Ap need=true)(w:World):Calls prog 41 #[.int .i64 page,.int .i64 need,.int .i64 out,.int .i64 perm] w fun e w'=>e=.returned (Cg (Ef page need out perm))/\Below w.heap.size w w':=by
 have ha:=JS perm need hp0 hp1 hn;unfold Ef Cg;by_cases hx:perm/need%2=1
 ·rw[if_pos hx];rw[decide_eq_true hx] at ha;clear hx hn;go_enter func41,ntmps41
  go_wp2_with (go_at_call 90;refine(ha _).mono ?_;rintro e wE ⟨rfl,hwE⟩;obtain rfl:=hwE.symm)
  exact bodyPost_ret (v:=.agg #[.int .i64 page,.int .i64 need,.int .i64 1,.int .i64 out]) (by simp[results,results41,go_sem]) rfl ⟨rfl,(Below.refl _ _).alloc (Nat.le_refl _) _⟩
 ·rw[if_neg hx];rw[decide_eq_false hx] at ha;clear hx hn;go_enter func41,ntmps41
  go_wp2_with (go_at_call 90;refine(ha _).mono ?_;rintro e wE ⟨rfl,hwE⟩;obtain rfl:=hwE.symm)
  exact bodyPost_ret (v:=.agg #[.int .i64 page,.int .i64 need,.int .i64 2,.int .i64 0]) (by simp[results,results41,go_sem]) rfl ⟨rfl,(Below.refl _ _).alloc (Nat.le_refl _) _⟩
theorem Jm(b o:Nat)(x y:Am)(w:World)(hb:b<w.heap.size)(c0:w.cell? ⟨b,o,none⟩=some (.int .i64 x.page))(c1:w.cell? ⟨b,o+1,none⟩=some (.int .i64 x.size))(c2:w.cell? ⟨b,o+2,none⟩=some (.bool x.doom))(c3:w.cell? ⟨b,o+3,none⟩=some (.int .i64 x.out))(c4:w.cell? ⟨b,o+4,none⟩=some (.int .i64 x.perm)):Calls prog 130 #[.pointer (some ⟨b,o,none⟩),.agg #[.int .i64 y.page,.int .i64 y.size,.bool y.doom,.int .i64 y.out,.int .i64 y.perm]] w fun r w'=>r=.returned (.bool (BH x y))/\Below w.heap.size w w':=by
 by_cases h0:x.page=y.page
 ·have k0:(x.page==y.page)=true:=by simpa using h0
  by_cases h1:x.size=y.size
  ·(have k1:(x.size==y.size)=true:=by simpa using h1);by_cases h2:x.out=y.out
   ·(have k2:(x.out==y.out)=true:=by simpa using h2);by_cases h3:x.perm=y.perm
    ·(have k3:(x.perm==y.perm)=true:=by simpa using h3);(have hs:BH x y=true:=by simp[BH,h0,h1,h2,h3]);rw[hs];clear hs h0 h1 h2 h3;(go_enter func130,ntmps130);(go_wp2_with fail);(go_quiet (fail));(go_wp2_with fail);go_ret;exact⟨rfl,AS ((Below.refl _ _).alloc (Nat.le_refl _) _) _⟩
    ·(have k3:(x.perm==y.perm)=false:=by simpa using h3);(have hs:BH x y=false:=by simp[BH,h3]);rw[hs];clear hs h0 h1 h2 h3;(go_enter func130,ntmps130);(go_wp2_with fail);(go_quiet (fail));(go_wp2_with fail);go_ret;exact⟨rfl,AS ((Below.refl _ _).alloc (Nat.le_refl _) _) _⟩
   ·(have k2:(x.out==y.out)=false:=by simpa using h2);(have hs:BH x y=false:=by simp[BH,h2]);rw[hs];clear hs h0 h1 h2;(go_enter func130,ntmps130);(go_wp2_with fail);(go_quiet (fail));(go_wp2_with fail);go_ret;exact⟨rfl,AS ((Below.refl _ _).alloc (Nat.le_refl _) _) _⟩
  ·(have k1:(x.size==y.size)=false:=by simpa using h1);(have hs:BH x y=false:=by simp[BH,h1]);rw[hs];clear hs h0 h1;(go_enter func130,ntmps130);(go_wp2_with fail);(go_quiet (fail));(go_wp2_with fail);go_ret;exact⟨rfl,AS ((Below.refl _ _).alloc (Nat.le_refl _) _) _⟩
 ·have k0:(x.page==y.page)=false:=by simpa using h0
  have hs:BH x y=false:=by simp[BH,h0]
  rw[hs];clear hs h0;go_enter func130,ntmps130
  go_wp2_with fail
  go_quiet (fail)
  go_wp2_with fail
  go_ret;exact⟨rfl,AS ((Below.refl _ _).alloc (Nat.le_refl _) _) _⟩
theorem Ee(n:Int)(w:World):Calls prog 49 #[.int .i64 n] w fun e w'=>e=.returned (.bool (Ap n))/\w'=w:=by
 by_cases h1:n=1
 ·subst h1;have hv:Ap 1=true:=rfl;rw[hv];go_enter func49,ntmps49
  go_wp2
  go_ret;exact⟨rfl,rfl⟩
 ·have k1:(n==1)=false:=by simpa using h1
  by_cases h2:n=2
  ·subst h2;have hv:Ap 2=true:=rfl;rw[hv];(go_enter func49,ntmps49);(go_wp2);go_ret;exact⟨rfl,rfl⟩
  ·(have k2:(n==2)=false:=by simpa using h2);by_cases h4:n=4
   ·subst h4;have hv:Ap 4=true:=rfl;rw[hv];(go_enter func49,ntmps49);(go_wp2);go_ret;exact⟨rfl,rfl⟩
   ·(have k4:(n==4)=false:=by simpa using h4);(have hv:Ap n=false:=by simp[Ap,h1,h2,h4]);rw[hv];clear h1 h2 h4 hv;(go_enter func49,ntmps49);(go_wp2);go_ret;exact⟨rfl,rfl⟩
theorem MR(p need:Int)(hp0:0<=p)(hp1:p<=7)(hn:Ap need=true):bits .and .i64 p need=p/need%2*need:=by
 obtain⟨a,rfl⟩:=Int.eq_ofNat_of_zero_le hp0;unfold Ap at hn;simp only[Bool.or_eq_true,decide_eq_true_eq] at hn;rcases hn with(h|h)|h<;>subst h
 ·have h:=Fw a 0 (by omega) (by omega);simp only[Nat.pow_zero] at h;rw[show ((1:Nat):Int)=1 from rfl] at h;rw[h];omega
 ·have h:=Fw a 1 (by omega) (by omega);rw[show ((2 ^ 1:Nat):Int)=2 from rfl] at h;rw[h];omega
 ·have h:=Fw a 2 (by omega) (by omega);rw[show ((2 ^ 2:Nat):Int)=4 from rfl] at h;rw[h];omega
theorem GY(h:IR)(page need:Int)(hp:0<=h.perm/\h.perm<=7)(hn:Ap need=true)(w:World):Calls prog 106 #[DE h,.int .i64 page,.int .i64 need] w fun e w'=>e=.returned (Cg (Bs page need h))/\Below w.heap.size w w':=by
 have hand:=MR h.perm need hp.1 hp.2 hn;have hnz:need=1\/need=2\/need=4:=by
  unfold Ap at hn;simp only[Bool.or_eq_true,decide_eq_true_eq] at hn;omega
 unfold Cg Bs DE Ef;by_cases h1:h.kind=1
 ·rw[if_pos h1];have k1:(h.kind != 1)=false:=by simp[h1]
  by_cases h2:h.perm/need%2=1
  ·rw[if_pos h2];(have k2:(bits .and .i64 h.perm need==0)=false:=by rw[hand,h2];simp;omega);clear hand hnz h1 h2 hn hp;generalize h.kind=K at *;generalize h.out=O at *;generalize h.perm=P at *;generalize h.size=S at *;(go_enter func106,ntmps106);(go_wp2_with fail);exact bodyPost_ret (v:=.agg #[.int .i64 page,.int .i64 need,.int .i64 1,.int .i64 O]) (by simp[results,results106,go_sem]) rfl ⟨rfl,((Below.refl _ _).alloc (Nat.le_refl _) _).alloc (by simp) _⟩
  ·rw[if_neg h2];(have k2:(bits .and .i64 h.perm need==0)=true:=by rw[hand,show h.perm/need%2=0 by omega];simp);clear hand hnz h1 h2 hn hp;generalize h.kind=K at *;generalize h.out=O at *;generalize h.perm=P at *;generalize h.size=S at *;(go_enter func106,ntmps106);(go_wp2_with fail);exact bodyPost_ret (v:=.agg #[.int .i64 page,.int .i64 need,.int .i64 2,.int .i64 0]) (by simp[results,results106,go_sem]) rfl ⟨rfl,((Below.refl _ _).alloc (Nat.le_refl _) _).alloc (by simp) _⟩
 ·rw[if_neg h1];have k1:(h.kind != 1)=true:=by simpa using h1
  clear hand hnz h1 hn hp;generalize h.kind=K at *;generalize h.out=O at *;generalize h.perm=P at *;generalize h.size=S at *;go_enter func106,ntmps106
  go_wp2_with fail
  exact bodyPost_ret (v:=.agg #[.int .i64 page,.int .i64 need,.int .i64 K,.int .i64 0]) (by simp[results,results106,go_sem]) rfl ⟨rfl,((Below.refl _ _).alloc (Nat.le_refl _) _).alloc (by simp) _⟩
theorem Kc{e:Am}(he:Js e)(page:Int)(hp:0<=page):BM e.page e.size page 1=AY e page:=by
 rw[Bool.eq_iff_iff,NC he page hp];unfold BM;simp only[Bool.and_eq_true,decide_eq_true_eq];omega
def Jh (M:A9) (page:Int):Value:=.tuple #[if BL M page<M.tlb.length then DE (BG M page) else DE ⟨0,0,0,0⟩,.bool (decide (BL M page<M.tlb.length))]
set_option maxRecDepth 100000 in
theorem KA(gu b0 B:Nat)(L:Bool)(u:UV)(M:A9)(page:Int)(w:World)(hp0:0<=page)(hp1:page<4096)(hn:M.tlb.length<=256)(hv:∀i,i<M.tlb.length->Js (A8 A7 M.tlb i)/\0<=(A8 A7 M.tlb i).out/\(A8 A7 M.tlb i).out<65536)(h:UM w gu b0 B L u M):Calls prog 104 #[.pointer (some ⟨gu,0,none⟩),.int .i64 page] w fun r w'=>r=.returned (Jh M page)/\Below w.heap.size w w':=by
 have hlt:=h.lt;have q3:=h.q3;obtain⟨g,hg⟩:∃g,0<M.tlb.length->u.a4=some ⟨g,0,none⟩/\g<w.heap.size/\∀wX,Below w.heap.size w wX->∀i,i<M.tlb.length->wX.cell? ⟨g,i*5,none⟩=some (.int .i64 (A8 A7 M.tlb i).page)/\wX.cell? ⟨g,i*5+1,none⟩=some (.int .i64 (A8 A7 M.tlb i).size)/\wX.cell? ⟨g,i*5+2,none⟩=some (.bool (A8 A7 M.tlb i).doom)/\wX.cell? ⟨g,i*5+3,none⟩=some (.int .i64 (A8 A7 M.tlb i).out)/\wX.cell? ⟨g,i*5+4,none⟩=some (.int .i64 (A8 A7 M.tlb i).perm):=by
  by_cases h0:M.tlb.length=0
  ·exact⟨0,fun h'=>by omega⟩
  ·obtain⟨ga,ca,hae,haf⟩:=h.t.form;obtain⟨g,N,f,hag,_,hr,hN,hf⟩:=haf (by omega);have hga:u.a4=some ⟨g,0,none⟩:=by
    simp only[Value.slice.injEq] at hae;exact hae.1.trans hag
   have hN':M.tlb.length*5<=N:=hN;refine⟨g,fun _=>⟨hga,hr.lt,fun wX hX i hi=>?_⟩⟩;have hrow:wX.rowIs g 156 N f:=hr.of_block (hX.block g hr.lt);refine⟨?_,?_,?_,?_,?_⟩
   ·rw[hrow.cell (i:=i*5) (by omega)];exact congrArg some (hf i hi 0 (by decide))
   ·rw[hrow.cell (i:=i*5+1) (by omega)];exact congrArg some (hf i hi 1 (by decide))
   ·rw[hrow.cell (i:=i*5+2) (by omega)];exact congrArg some (hf i hi 2 (by decide))
   ·rw[hrow.cell (i:=i*5+3) (by omega)];exact congrArg some (hf i hi 3 (by decide))
   ·rw[hrow.cell (i:=i*5+4) (by omega)];exact congrArg some (hf i hi 4 (by decide))
 obtain⟨wb,hwb⟩:∃wb,wb=w.alloc (.cells #[.int .i64 0,.int .i64 0,.int .i64 0,.int .i64 0] 87):=⟨_,rfl⟩
 have hbb:Below w.heap.size w wb:=by rw[hwb];exact(Below.refl _ _).alloc (Nat.le_refl _) _
 have hzb:wb.heap.size=w.heap.size+1:=by rw[hwb];simp
 have HRES:Hid (∀wX,Below wb.heap.size wb wX->(wX.cell? ⟨w.heap.size,0,none⟩=some (.int .i64 0)/\wX.cell? ⟨w.heap.size,1,none⟩=some (.int .i64 0)/\wX.cell? ⟨w.heap.size,2,none⟩=some (.int .i64 0)/\wX.cell? ⟨w.heap.size,3,none⟩=some (.int .i64 0))/\(wX.frozen? ⟨w.heap.size,0,none⟩=false/\wX.frozen? ⟨w.heap.size,1,none⟩=false/\wX.frozen? ⟨w.heap.size,2,none⟩=false/\wX.frozen? ⟨w.heap.size,3,none⟩=false)/\w.heap.size<wX.heap.size):=fun wX hX=>by
  refine⟨⟨?_,?_,?_,?_⟩,⟨?_,?_,?_,?_⟩,by have:=hX.size;omega⟩;iterate 4 (exact(hX.cell (by simp;omega)).trans (by rw[hwb];simp[go_sem]))
  iterate 4 (exact(hX.frozen (by simp;omega)).trans (by rw[hwb];simp[go_sem]))
 have HQ:Hid (∀wX,Below wb.heap.size wb wX->wX.cell? ⟨gu,3,none⟩=some (.slice u.a4 M.tlb.length u.c4)):=fun wX hX=>((hbb.trans (hX.mono (by omega))).cell hlt).trans q3
 have HG:Hid _:=hg;have HV:Hid _:=hv;have HWB:Hid (wb=_):=hwb;have HBB:Hid (Below _ w wb):=hbb;have HZ:Hid (wb.heap.size=w.heap.size+1):=hzb;have q3b:=HQ.out wb (Below.refl _ _);rw[hwb] at q3b;clear h hv hg hwb hbb hzb q3;go_enter func104,ntmps104
 go_wp2_with fail
 clear q3b;go_loopw [6,14] (fun fv iv wr=>∃t:Nat,t<=M.tlb.length/\iv=.int .i64 t/\Below wb.heap.size wb wr/\((fv=.pointer none/\∀j,j<t->AY (A8 A7 M.tlb j) page=false)\/(∃f:Nat,f<t/\fv=.pointer (some ⟨g,f*5,none⟩)/\AY (A8 A7 M.tlb f) page=true/\(∀j,j<f->AY (A8 A7 M.tlb j) page=false)/\∀j,j<t->AY (A8 A7 M.tlb j) page=true->BH (A8 A7 M.tlb f) (A8 A7 M.tlb j)=true))) (fun _ iv _=>M.tlb.length-(intOf iv).toNat)
 case atStart=>exact⟨0,Nat.zero_le _,rfl,by rw[HWB.out];exact Below.refl _ _,.inl ⟨rfl,fun j hj=>by omega⟩⟩
 case round =>
  obtain⟨t,ht,rfl,hb,hst⟩:=hrel;have hsz:=hb.size;have q3r:=HQ.out wr hb;by_cases htl:t<M.tlb.length
  ·obtain⟨hga,hgl,hcl⟩:=HG.out (by omega);have bW:Below w.heap.size w wr:=HBB.out.trans (hb.mono (by have:=HZ.out;omega));rw[hga] at q3r;obtain⟨e0,e1,e2,e3,e4⟩:=hcl wr bW t htl;have HCL:Hid _:=hcl;obtain⟨xr,xo0,xo1⟩:=HV.out t htl;have xs:=xr.s;have hcv:=GO g (t*5) (A8 A7 M.tlb t).page (A8 A7 M.tlb t).size page ⟨xr.p0,by have:=xr.p1;omega⟩ ⟨by omega,by omega⟩ ⟨hp0,by omega⟩ wr e0 e1;rw[Kc xr page hp0] at hcv;(have L1:(0:Int)<=(t:Int):=by omega);(have L2:(t:Int)<(M.tlb.length:Int):=by omega);have HB:Hid (Below wb.heap.size wb wr):=hb;have HBW:Hid (Below w.heap.size w wr):=bW;clear hb bW hcl xr xo0 xo1 xs e0 e1 e2 e3 e4 hga;cases hc:AY (A8 A7 M.tlb t) page
   ·rw[hc] at hcv;have HC:Hid _:=hc;have HST:Hid _:=hst;clear hc hst;(go_wp2_with fail);refine hcv.mono ?_;rintro e w1 ⟨rfl,hb1⟩;have HB1:Hid (Below wb.heap.size wb w1):=HB.out.trans (hb1.mono HB.out.size);clear hb1 hcv;(go_wp2_with fail);go_roundw;case rel =>
     refine⟨t+1,by omega,by go_num,HB1.out,HST.out.elim (fun h=>.inl ⟨h.1,fun j hj=>if e:j=t then e ▸ HC.out else h.2 j (by omega)⟩) (fun ⟨f,a1,a2,a3,a4,a5⟩=>.inr ⟨f,by omega,a2,a3,a4,fun j hj hcj=>if e:j=t then by subst e;rw[HC.out] at hcj;cases hcj else a5 j (by omega) hcj⟩)⟩
    case measure=>simp[intOf];omega
   ·rw[hc] at hcv;have HC:Hid _:=hc;clear hc;rcases hst with⟨rfl,hno⟩|⟨f,hf,rfl,hcf,hnf,hsf⟩
    ·have HNO:Hid _:=hno;clear hno;(go_wp2_with fail);refine hcv.mono ?_;rintro e w1 ⟨rfl,hb1⟩;have HB1:Hid (Below wb.heap.size wb w1):=HB.out.trans (hb1.mono HB.out.size);clear hb1 hcv;(go_wp2_with fail);go_roundw;case rel =>
      exact⟨t+1,by omega,by go_num,HB1.out,.inr ⟨t,by omega,rfl,HC.out,HNO.out,fun j hj hcj=>if e:j=t then by subst e;exact Jp _ else by rw[HNO.out j (by omega)] at hcj;cases hcj⟩⟩
     case measure=>simp[intOf];omega
    ·have HCF:Hid _:=hcf;have HNF:Hid _:=hnf;have HSF:Hid _:=hsf;clear hcf hnf hsf;(go_wp2_with fail);refine hcv.mono ?_;rintro e w1 ⟨rfl,hb1⟩;have B1:Below w.heap.size w w1:=HBW.out.trans (hb1.mono HBW.out.size);obtain⟨d0,d1,d2,d3,d4⟩:=HCL.out w1 B1 t htl;obtain⟨k0,k1,k2,k3,k4⟩:=HCL.out w1 B1 f (by omega);have hag:=Jm g (t*5) (A8 A7 M.tlb t) (A8 A7 M.tlb f) w1 (by have:=B1.size;omega) d0 d1 d2 d3 d4;have HB1:Hid (Below wb.heap.size wb w1):=HB.out.trans (hb1.mono HB.out.size);have hF:BL M page=f:=Db f (by omega) HNF.out HCF.out;have HF1:Hid _:=hF;clear hb1 hcv B1 d0 d1 d2 d3 d4 hF;cases hsm:BH (A8 A7 M.tlb t) (A8 A7 M.tlb f)
     ·rw[hsm] at hag;have hcl2:Do M page=true:=Hc t htl HC.out (by rw[HF1.out,GT];exact hsm);have HEQ:Hid (Jh M page=.tuple #[DE ⟨4,0,0,0⟩,.bool true]):=by
       show Jh M page=_;unfold Jh BG;rw[HF1.out,hcl2,if_pos (by omega),decide_eq_true (show f<M.tlb.length by omega)];rfl
      clear hsm hcl2;generalize A8 A7 M.tlb f=y at *;(go_wp2_with fail);refine hag.mono ?_;rintro e w2 ⟨rfl,hb2⟩;have b2:Below wb.heap.size wb w2:=HB1.out.trans (hb2.mono HB1.out.size);obtain⟨⟨m0,m1,m2,m3⟩,⟨n0,n1,n2,n3⟩,N0⟩:=HRES.out w2 b2;have HB2:Hid (Below w.heap.size w w2):=HBB.out.trans (b2.mono (by have:=HZ.out;omega));clear hb2 b2 hag k0 k1 k2 k3 k4;(go_wp2_with fail);(obtain⟨wF,hwF⟩:∃wF,wF=(((w2.setCell ⟨w.heap.size,0,none⟩ (.int .i64 4)).setCell ⟨w.heap.size,1,none⟩ (.int .i64 0)).setCell ⟨w.heap.size,2,none⟩ (.int .i64 0)).setCell ⟨w.heap.size,3,none⟩ (.int .i64 0):=⟨_,rfl⟩);rw[<- hwF];(have f0:wF.cell? ⟨w.heap.size,0,none⟩=some (.int .i64 4):=by rw[hwF];simp[go_sem,m0]);(have f1:wF.cell? ⟨w.heap.size,1,none⟩=some (.int .i64 0):=by rw[hwF];simp[go_sem,m1]);(have f2:wF.cell? ⟨w.heap.size,2,none⟩=some (.int .i64 0):=by rw[hwF];simp[go_sem,m2]);(have f3:wF.cell? ⟨w.heap.size,3,none⟩=some (.int .i64 0):=by rw[hwF];simp[go_sem,m3]);have bF:Below w.heap.size w wF:=by
       rw[hwF];exact(((HB2.out.setCell (by simp) _).setCell (by simp) _).setCell (by simp) _).setCell (by simp) _
      exact bodyPost_ret (v:=.tuple #[.agg #[.int .i64 4,.int .i64 0,.int .i64 0,.int .i64 0],.bool true]) (by simp[results,results104,go_sem,f0,f1,f2,f3]) rfl ⟨by rw[HEQ.out];rfl,bF⟩
     ·rw[hsm] at hag;have HSM:Hid _:=hsm;clear hsm;(go_wp2_with fail);refine hag.mono ?_;rintro e w2 ⟨rfl,hb2⟩;have HB2:Hid (Below wb.heap.size wb w2):=HB1.out.trans (hb2.mono HB1.out.size);clear hb2 hag k0 k1 k2 k3 k4;(go_wp2_with fail);go_roundw;case rel =>
       exact⟨t+1,by omega,by go_num,HB2.out,.inr ⟨f,by omega,rfl,HCF.out,HNF.out,fun j hj hcj=>if e:j=t then by subst e;rw[GT];exact HSM.out else HSF.out j (by omega) hcj⟩⟩
      case measure=>simp[intOf];omega
  ·(have e:t=M.tlb.length:=by omega);subst e;(have LF:¬(M.tlb.length:Int)<(M.tlb.length:Int):=by omega);obtain⟨⟨m0,m1,m2,m3⟩,⟨n0,n1,n2,n3⟩,N0⟩:=HRES.out wr hb;have HBW:Hid (Below w.heap.size w wr):=HBB.out.trans (hb.mono (by have:=HZ.out;omega));have HB:Hid (Below wb.heap.size wb wr):=hb;rcases hst with⟨rfl,hno⟩|⟨f,hf,rfl,hcf,hnf,hsf⟩
   ·have HEQ:Hid (Jh M page=.tuple #[DE ⟨0,0,0,0⟩,.bool false]):=by
     show Jh M page=_;unfold Jh;rw[Fi hno,if_neg (by omega),decide_eq_false (by omega)]
    clear hno hb q3r;(go_wp2_with fail);(obtain⟨wF,hwF⟩:∃wF,wF=(((wr.setCell ⟨w.heap.size,0,none⟩ (.int .i64 0)).setCell ⟨w.heap.size,1,none⟩ (.int .i64 0)).setCell ⟨w.heap.size,2,none⟩ (.int .i64 0)).setCell ⟨w.heap.size,3,none⟩ (.int .i64 0):=⟨_,rfl⟩);rw[<- hwF];(have f0:wF.cell? ⟨w.heap.size,0,none⟩=some (.int .i64 0):=by rw[hwF];simp[go_sem,m0]);(have f1:wF.cell? ⟨w.heap.size,1,none⟩=some (.int .i64 0):=by rw[hwF];simp[go_sem,m1]);(have f2:wF.cell? ⟨w.heap.size,2,none⟩=some (.int .i64 0):=by rw[hwF];simp[go_sem,m2]);(have f3:wF.cell? ⟨w.heap.size,3,none⟩=some (.int .i64 0):=by rw[hwF];simp[go_sem,m3]);have bF:Below w.heap.size w wF:=by
     rw[hwF];exact(((HBW.out.setCell (by simp) _).setCell (by simp) _).setCell (by simp) _).setCell (by simp) _
    exact bodyPost_ret (v:=.tuple #[.agg #[.int .i64 0,.int .i64 0,.int .i64 0,.int .i64 0],.bool false]) (by simp[results,results104,go_sem,f0,f1,f2,f3]) rfl ⟨by rw[HEQ.out];rfl,bF⟩
   ·obtain⟨hga,hgl,hcl⟩:=HG.out (by omega);obtain⟨k0,k1,k2,k3,k4⟩:=hcl wr HBW.out f hf;obtain⟨xr,xo0,xo1⟩:=HV.out f hf;have hht:=I7 g (f*5) page (A8 A7 M.tlb f).page (A8 A7 M.tlb f).size (A8 A7 M.tlb f).out (A8 A7 M.tlb f).perm hp0 (by omega) xr.p0 (by have:=xr.p1;omega) xo0 (by omega) wr (by omega) k0 k1 k3 k4;have hF:BL M page=f:=Db f hf hnf hcf;have hcl2:Do M page=false:=It (fun t ht hc=>by rw[hF];exact hsf t ht hc);have HEQ:Hid (Jh M page=.tuple #[DE ⟨1,(A8 A7 M.tlb f).out+page-(A8 A7 M.tlb f).page,(A8 A7 M.tlb f).perm,(A8 A7 M.tlb f).size⟩,.bool true]):=by
     show Jh M page=_;unfold Jh BG;rw[hF,hcl2,if_pos hf,decide_eq_true hf];rfl
    clear hcl hcf hnf hsf hF hcl2 hga k0 k1 k2 k3 k4 xr xo0 xo1 hb m0 m1 m2 m3 n0 n1 n2 n3 q3r;generalize A8 A7 M.tlb f=y at *;(go_wp2_with fail);refine hht.mono ?_;rintro e w2 ⟨rfl,hb2⟩;have b2:Below wb.heap.size wb w2:=HB.out.trans (hb2.mono HB.out.size);obtain⟨⟨m0,m1,m2,m3⟩,⟨n0,n1,n2,n3⟩,N0'⟩:=HRES.out w2 b2;have HB2:Hid (Below w.heap.size w w2):=HBB.out.trans (b2.mono (by have:=HZ.out;omega));clear hb2 b2 hht;(go_wp2_with fail);(obtain⟨wF,hwF⟩:∃wF,wF=(((w2.setCell ⟨w.heap.size,0,none⟩ (.int .i64 1)).setCell ⟨w.heap.size,1,none⟩ (.int .i64 (y.out+page-y.page))).setCell ⟨w.heap.size,2,none⟩ (.int .i64 y.perm)).setCell ⟨w.heap.size,3,none⟩ (.int .i64 y.size):=⟨_,rfl⟩);rw[<- hwF];(have f0:wF.cell? ⟨w.heap.size,0,none⟩=some (.int .i64 1):=by rw[hwF];simp[go_sem,m0]);(have f1:wF.cell? ⟨w.heap.size,1,none⟩=some (.int .i64 (y.out+page-y.page)):=by rw[hwF];simp[go_sem,m1]);(have f2:wF.cell? ⟨w.heap.size,2,none⟩=some (.int .i64 y.perm):=by rw[hwF];simp[go_sem,m2]);(have f3:wF.cell? ⟨w.heap.size,3,none⟩=some (.int .i64 y.size):=by rw[hwF];simp[go_sem,m3]);have bF:Below w.heap.size w wF:=by
     rw[hwF];exact(((HB2.out.setCell (by simp) _).setCell (by simp) _).setCell (by simp) _).setCell (by simp) _
    exact bodyPost_ret (v:=.tuple #[.agg #[.int .i64 1,.int .i64 (y.out+page-y.page),.int .i64 y.perm,.int .i64 y.size],.bool true]) (by simp[results,results104,go_sem,f0,f1,f2,f3]) rfl ⟨by rw[HEQ.out];rfl,bF⟩
end
end Go.Proofs.YtnmhkgmmpkjjeabGreat
