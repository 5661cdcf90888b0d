import Derived.Test.YtnmhkgmmpkjjeaaGreatK05
import Derived.Deep.Slices
import Derived.ChangeOld
namespace Go.Proofs.YtnmhkgmmpkjjeaaGreat
open Go.ChangeShapes Go.WideShapes Go.ChangeAt Go.RowKit
set_option linter.unusedVariables false
attribute [local go_sem ↓] Go.wp_at_zero Go.wp_at_succ
structure A9 where
 page:Int
 count:Int
 out:Int
 perm:Int
 huge:Bool
def A7:E8 A9:=⟨103,5,fun x=>[.int .i64 x.page,.int .i64 x.count,.int .i64 x.out,.int .i64 x.perm,.bool x.huge],⟨0,0,0,0,false⟩,by omega,fun _=>rfl⟩
theorem OF:(Tryz.prog.info? 103).map (fun i=>(i.zero,i.size,i.bytes))=some (some (.agg #[.int .i64 0,.int .i64 0,.int .i64 0,.int .i64 0,.bool false]),5,40):=by kernel_rfl
def O8 (x:A9):Prop:=-9223372036854775808<=x.page/\x.page<=9223372036854775807/\-9223372036854775808<=x.count/\x.count<=9223372036854775807/\-9223372036854775808<=x.out/\x.out<=9223372036854775807/\-9223372036854775808<=x.perm/\x.perm<=9223372036854775807
def AY (x:A9):Bool:=decide (1<=x.count/\0<=x.page/\x.page+x.count<=4096/\0<=x.out/\x.out+x.count<=65536/\1<=x.perm/\x.perm<=7)
theorem Av {x:A9}:AY x=true↔(1<=x.count/\0<=x.page/\x.page+x.count<=4096/\0<=x.out/\x.out+x.count<=65536/\1<=x.perm/\x.perm<=7):=by simp[AY]
def BX (a b:A9):Bool:=decide (b.page=a.page+a.count/\b.out=a.out+a.count/\b.perm=a.perm/\b.huge=a.huge)
def Cq (a b:A9):Bool:=decide (a.page+a.count<=b.page)&&!BX a b
def VS (xs:List A9):Prop:=(∀i,i<xs.length->AY (AI A7 xs i)=true)/\∀i,i+1<xs.length->Cq (AI A7 xs i) (AI A7 xs (i+1))=true
def FE (xs:List A9):Bool:=(List.range xs.length).all (fun i=>AY (AI A7 xs i))&&(List.range (xs.length-1)).all (fun i=>Cq (AI A7 xs i) (AI A7 xs (i+1)))
theorem NL {xs:List A9}:FE xs=true↔VS xs:=by
 unfold FE VS;rw[Bool.and_eq_true,List.all_eq_true,List.all_eq_true];exact⟨fun h=>⟨fun i hi=>h.1 i (List.mem_range.2 hi),fun i hi=>h.2 i (List.mem_range.2 (by omega))⟩,fun h=>⟨fun i hi=>h.1 i (List.mem_range.1 hi),fun i hi=>h.2 i (by have:=List.mem_range.1 hi;omega)⟩⟩
theorem KZ {xs:List A9} (h:VS xs):FE xs=true:=NL.2 h
theorem MH {xs:List A9} (h:¬VS xs):FE xs=false:=by
 cases hb:FE xs
 ·rfl
 ·exact absurd (NL.1 hb) h
theorem VS.of_true {xs:List A9} (h:FE xs=true):VS xs:=NL.1 h
end Go.Proofs.YtnmhkgmmpkjjeaaGreat
namespace Go.Proofs.YtnmhkgmmpkjjeaaGreat
open Go.ChangeShapes Go.WideShapes Go.ChangeAt Go.RowKit
set_option linter.unusedVariables false
theorem HU {w:World} {b cap:Nat} {a:Option Addr} {xs:List A9} (h:A6 A7 w b (.slice a xs.length cap) xs) : ∃g,(0<xs.length->a=some ⟨g,0,none⟩/\g<w.heap.size)/\∀k P C O R G,k<xs.length->AI A7 xs k=⟨P,C,O,R,G⟩->∀wX,Below w.heap.size w wX->wX.cell? ⟨g,k*5,none⟩=some (.int .i64 P)/\wX.cell? ⟨g,k*5+1,none⟩=some (.int .i64 C)/\wX.cell? ⟨g,k*5+2,none⟩=some (.int .i64 O)/\wX.cell? ⟨g,k*5+3,none⟩=some (.int .i64 R)/\wX.cell? ⟨g,k*5+4,none⟩=some (.bool G):=by
 obtain⟨a',c',e,hf⟩:=h.form;simp only[Value.slice.injEq] at e;obtain⟨rfl,_,_⟩:=e;by_cases h0:0<xs.length
 ·obtain⟨g,N,f,rfl,_,hr,hN,hc⟩:=hf h0;have hN':xs.length*5<=N:=hN;refine⟨g,fun _=>⟨rfl,hr.lt⟩,fun k P C O R G hk he wX hX=>?_⟩;have hr1:wX.rowIs g 103 N f:=hr.of_block (hX.block g hr.lt);have c:∀j,j<5->wX.cell? ⟨g,k*5+j,none⟩=some (CO A7 xs k j):=fun j hj=>by
   rw[hr1.cell (by omega)];exact congrArg some (hc k hk j hj)
  have e0:∀j,CO A7 xs k j=((A7.enc ⟨P,C,O,R,G⟩)[j]?).getD (.bool false):=fun j=>by unfold CO;rw[he]
  exact⟨(c 0 (by omega)).trans (by rw[e0];rfl),(c 1 (by omega)).trans (by rw[e0];rfl),(c 2 (by omega)).trans (by rw[e0];rfl),(c 3 (by omega)).trans (by rw[e0];rfl),(c 4 (by omega)).trans (by rw[e0];rfl)⟩
 ·exact⟨0,fun h=>absurd h h0,fun k P C O R G hk=>absurd hk (by omega)⟩
structure BP where
 kind:Int
 a:Int
 b:Int
 word:Int
def Ba:E8 BP:=⟨77,4,fun x=>[.int .i64 x.kind,.int .i64 x.a,.int .i64 x.b,.int .u64 x.word],⟨0,0,0,0⟩,by omega,fun _=>rfl⟩
theorem No:(Tryz.prog.info? 77).map (fun i=>(i.zero,i.size,i.bytes))=some (some (.agg #[.int .i64 0,.int .i64 0,.int .i64 0,.int .u64 0]),4,32):=by kernel_rfl
end Go.Proofs.YtnmhkgmmpkjjeaaGreat
namespace Go.Proofs.YtnmhkgmmpkjjeaaGreat
open Go.ChangeShapes Go.WideShapes Go.ChangeAt Go.RowKit
set_option linter.unusedVariables false
attribute [local go_sem ↓] Go.wp_at_zero Go.wp_at_succ
def Ag:E8 Int:=⟨75,1,fun x=>[.int .u64 x],0,by omega,fun _=>rfl⟩
theorem CQ.erow {w:World} {g base:Nat} {zs:List Int} (h:CQ w g zs) (hb:base<=g) (hn:zs.length<=1048576):A6 Ag w base (.slice (some ⟨g,0,none⟩) zs.length zs.length) zs:=by
 refine A6.of_row (cap:=zs.length) rfl hb h (by simp[Ag]) (Nat.le_refl _) (by unfold maxLen;omega) ?_;intro i hi j hj;have:j=0:=by simp[Ag] at hj;omega
 subst this;simp[CO,Ag,AI]
theorem I5 {w:World} {base:Nat} {v:Value} {zs:List Int} (h:A6 Ag w base v zs):∃a cap,v=.slice a zs.length cap/\(0<zs.length->∃g N f,a=some ⟨g,0,none⟩/\base<=g/\w.rowIs g 75 N f/\zs.length<=N/\∀i,i<zs.length->f i=.int .u64 (zs.getD i 0)):=by
 obtain⟨a,c,e,ha⟩:=h.form;refine⟨a,c,e,fun h0=>?_⟩;obtain⟨g,N,f,p,q,r,s,t⟩:=ha h0;refine⟨g,N,f,p,q,r,by simpa [Ag] using s,fun i hi=>?_⟩;have:=t i hi 0 (by decide);simpa [CO,Ag,AI] using this
end Go.Proofs.YtnmhkgmmpkjjeaaGreat
namespace Go.Proofs.YtnmhkgmmpkjjeaaGreat
open Go.ChangeShapes Go.WideShapes Go.ChangeAt Go.RowKit
set_option linter.unusedVariables false
set_option linter.unusedSimpArgs false
theorem Po {w:World} {b c:Nat} {a:Option Addr} {zs:List Int} (h:A6 Ag w b (.slice a zs.length c) zs) (h0:0<zs.length):∃g,a=some ⟨g,0,none⟩/\b<=g/\zs.length<=c/\Ar w g zs:=by
 have h':=h;rcases h.2 with⟨e,h0'⟩|⟨g,cap,cur,e,hb,hg,hn,hm,hs,ht⟩
 ·omega
 ·simp only[Value.slice.injEq] at e;obtain⟨rfl,_,rfl⟩:=e;obtain⟨a',c',e,ha⟩:=I5 h';obtain⟨g',N,f,e1,_,hr,hN,hf⟩:=ha h0;simp only[Value.slice.injEq] at e;rw[<- e.1] at e1;cases e1;refine⟨g,rfl,hb,hn,hr.lt,fun i hi=>?_⟩;have:=hr.cell (i:=i) (by omega);rwa [hf i hi] at this
theorem A5 {p:Prop} (h:p):Hid p:=h
structure Ht where
 k:Int
 o:Int
 p:Int
 s:Int
def RL:Ht:=⟨0,0,0,0⟩
def I8 (e:A9) (page:Int):Bool:=decide (e.page<=page/\page<e.page+e.count)
def DC (e:A9) (page:Int):Bool:=e.huge&&decide (e.page<=page-page%16/\page-page%16+16<=e.page+e.count/\(e.out+(page-page%16)-e.page)%16=0)
def IG (e:A9) (page:Int):Ht:=⟨1,e.out+page-e.page,e.perm,if DC e page then 16 else 1⟩
def DO (xs:List A9) (page:Int):Ht:=match xs.find? (fun e=>I8 e page) with
 | some e=>IG e page
 | none=>RL
theorem OI (page:Int):∀(xs:List A9) (k:Nat),k<xs.length->(∀j,j<k->I8 (AI A7 xs j) page=false)->I8 (AI A7 xs k) page=true->xs.find? (fun e=>I8 e page)=some (AI A7 xs k)
 | [],k,hk,_,_=>absurd hk (by simp)
 | x :: r,0,_,_,h=>by
  have h':I8 x page=true:=h;rw[List.find?_cons_of_pos (by exact h')];rfl
 | x :: r,k+1,hk,hn,h=>by
  have h0:I8 x page=false:=hn 0 (by omega);rw[List.find?_cons_of_neg (by rw[h0];decide)];exact OI page r k (by simpa using hk) (fun j hj=>hn (j+1) (by omega)) h
theorem Mf (page:Int) (xs:List A9) (k:Nat) (hk:k<xs.length) (hn:∀j,j<k->I8 (AI A7 xs j) page=false) (h:I8 (AI A7 xs k) page=true):DO xs page=IG (AI A7 xs k) page:=by
 unfold DO;rw[OI page xs k hk hn h]
theorem NV (page:Int) (xs:List A9) (hn:∀j,j<xs.length->I8 (AI A7 xs j) page=false):DO xs page=RL:=by
 have:xs.find? (fun e=>I8 e page)=none:=by
  rw[List.find?_eq_none];intro e he;obtain⟨i,hi,rfl⟩:=List.getElem_of_mem he;have:=hn i hi;unfold AI at this;rw[List.getD_eq_getElem?_getD,List.getElem?_eq_getElem hi] at this;have h2:I8 xs[i] page=false:=this;rw[h2];decide
 unfold DO;rw[this]
theorem VS.order {xs:List A9} (h:VS xs) (i:Nat):∀d,i+d+1<xs.length->(AI A7 xs i).page+(AI A7 xs i).count<=(AI A7 xs (i+d+1)).page
 | 0,hd=>by
  have:=h.2 i hd;unfold Cq at this;simp only[Bool.and_eq_true,decide_eq_true_eq] at this;exact this.1
 | d+1,hd=>by
  have h1:=VS.order h i d (by omega);have h2:=h.2 (i+d+1) hd;unfold Cq at h2;simp only[Bool.and_eq_true,decide_eq_true_eq] at h2;have h3:=Av.1 (h.1 (i+d+1) (by omega));have h4:=h2.1;have e:i+(d+1)+1=i+d+1+1:=by omega
  rw[e];omega
theorem VS.lt {xs:List A9} (h:VS xs) (i j:Nat) (hij:i<j) (hj:j<xs.length):(AI A7 xs i).page+(AI A7 xs i).count<=(AI A7 xs j).page:=by
 have:=h.order i (j-i-1) (by omega);rwa [show i+(j-i-1)+1=j by omega] at this
def Dr (xs:List A9) (page:Int) (i:Nat):Bool:=decide (page<(AI A7 xs i).page+(AI A7 xs i).count)
theorem Oe {xs:List A9} (h:VS xs) (page:Int) (a b:Nat) (hab:a<=b) (hb:b<xs.length) (ha:Dr xs page a=true):Dr xs page b=true:=by
 by_cases e:a=b
 ·rw[<- e];exact ha
 ·have h1:=h.lt a b (by omega) hb;have h2:=Av.1 (h.1 b hb);unfold Dr at ha ⊢;simp only[decide_eq_true_eq] at ha ⊢;omega
theorem Gd {xs:List A9} (h:VS xs) (page:Int) (r:Nat) (h1:∀t,t<r->Dr xs page t=false) (h2:r=xs.length\/(r<xs.length/\Dr xs page r=true/\page<(AI A7 xs r).page)):DO xs page=RL:=by
 refine NV page xs (fun j hj=>?_);unfold I8;rw[decide_eq_false_iff_not];by_cases hjr:j<r
 ·have:=h1 j hjr;unfold Dr at this;simp only[decide_eq_false_iff_not] at this;omega
 ·rcases h2 with e|⟨hr,he,hp⟩
  ·omega
  ·by_cases e:j=r
   ·rw[e];omega
   ·have h3:=h.lt r j (by omega) hj;have h4:=Av.1 (h.1 r hr);omega
theorem Li {xs:List A9} (page:Int) (r:Nat) (hr:r<xs.length) (h1:∀t,t<r->Dr xs page t=false) (he:Dr xs page r=true) (hp:(AI A7 xs r).page<=page):DO xs page=IG (AI A7 xs r) page:=by
 refine Mf page xs r hr (fun j hj=>?_) ?_
 ·have:=h1 j hj;unfold Dr at this;simp only[decide_eq_false_iff_not] at this;unfold I8;rw[decide_eq_false_iff_not];omega
 ·unfold Dr at he;unfold I8;simp only[decide_eq_true_eq] at he ⊢;exact⟨hp,he⟩
def QH (xs:List A9) (page:Int):Ht:=if FE xs=true/\0<=page/\page<4096 then DO xs page else RL
end Go.Proofs.YtnmhkgmmpkjjeaaGreat
namespace Go.Proofs.YtnmhkgmmpkjjeaaGreat
open Go.ChangeShapes Go.WideShapes Go.ChangeAt Go.RowKit
set_option linter.unusedVariables false
attribute [local go_sem ↓] Go.wp_at_zero Go.wp_at_succ
theorem Mu (p c o r:Int) (g:Bool) (w:World) (hw:O8 ⟨p,c,o,r,g⟩) : Calls Tryz.prog 117 #[.agg #[.int .i64 p,.int .i64 c,.int .i64 o,.int .i64 r,.bool g]] w fun e w'=>e=.returned (.bool (AY ⟨p,c,o,r,g⟩))/\Below w.heap.size w w':=by
 obtain⟨hp1,hp2,hc1,hc2,ho1,ho2,hr1,hr2⟩:=hw;dsimp only at hp1 hp2 hc1 hc2 ho1 ho2 hr1 hr2;by_cases h0:c<1
 ·have d0:decide (c<1)=true:=by simpa using h0
  have hr:AY ⟨p,c,o,r,g⟩=false:=decide_eq_false (by dsimp only;omega);rw[hr];clear hr;go_enter Tryz.func117,Tryz.ntmps117
  go_wp2_with fail
  go_ret;exact⟨rfl,(Below.refl _ _).alloc (Nat.le_refl _) _⟩
 ·have d0:decide (c<1)=false:=by simpa using h0
  by_cases h1:4096<c
  ·(have d1:decide (4096<c)=true:=by simpa using h1);have hr:AY ⟨p,c,o,r,g⟩=false:=decide_eq_false (by dsimp only;omega);rw[hr];clear hr;(go_enter Tryz.func117,Tryz.ntmps117);(go_wp2_with fail);go_ret;exact⟨rfl,(Below.refl _ _).alloc (Nat.le_refl _) _⟩
  ·(have d1:decide (4096<c)=false:=by simpa using h1);by_cases h2:r<1
   ·(have d2:decide (r<1)=true:=by simpa using h2);have hr:AY ⟨p,c,o,r,g⟩=false:=decide_eq_false (by dsimp only;omega);rw[hr];clear hr;(go_enter Tryz.func117,Tryz.ntmps117);(go_wp2_with fail);go_ret;exact⟨rfl,(Below.refl _ _).alloc (Nat.le_refl _) _⟩
   ·(have d2:decide (r<1)=false:=by simpa using h2);by_cases h3:7<r
    ·(have d3:decide (7<r)=true:=by simpa using h3);have hr:AY ⟨p,c,o,r,g⟩=false:=decide_eq_false (by dsimp only;omega);rw[hr];clear hr;(go_enter Tryz.func117,Tryz.ntmps117);(go_wp2_with fail);go_ret;exact⟨rfl,(Below.refl _ _).alloc (Nat.le_refl _) _⟩
    ·(have d3:decide (7<r)=false:=by simpa using h3);by_cases h4:p<0
     ·(have d4:decide (p<0)=true:=by simpa using h4);have hr:AY ⟨p,c,o,r,g⟩=false:=decide_eq_false (by dsimp only;omega);rw[hr];clear hr;(go_enter Tryz.func117,Tryz.ntmps117);(go_wp2_with fail);go_ret;exact⟨rfl,(Below.refl _ _).alloc (Nat.le_refl _) _⟩
     ·(have d4:decide (p<0)=false:=by simpa using h4);by_cases h5:4096<=p
      ·(have d5:decide (4096<=p)=true:=by simpa using h5);have hr:AY ⟨p,c,o,r,g⟩=false:=decide_eq_false (by dsimp only;omega);rw[hr];clear hr;(go_enter Tryz.func117,Tryz.ntmps117);(go_wp2_with fail);go_ret;exact⟨rfl,(Below.refl _ _).alloc (Nat.le_refl _) _⟩
      ·(have d5:decide (4096<=p)=false:=by simpa using h5);by_cases h6:4096<p+c
       ·(have d6:decide (4096<p+c)=true:=by simpa using h6);have hr:AY ⟨p,c,o,r,g⟩=false:=decide_eq_false (by dsimp only;omega);rw[hr];clear hr;(go_enter Tryz.func117,Tryz.ntmps117);(go_wp2_with fail);go_ret;exact⟨rfl,(Below.refl _ _).alloc (Nat.le_refl _) _⟩
       ·(have d6:decide (4096<p+c)=false:=by simpa using h6);by_cases h7:0<=o
        ·(have d7:decide (0<=o)=true:=by simpa using h7);by_cases h8:o<65536
         ·(have d8:decide (o<65536)=true:=by simpa using h8);by_cases h9:o+c<=65536
          ·(have d9:decide (o+c<=65536)=true:=by simpa using h9);have hr:AY ⟨p,c,o,r,g⟩=true:=decide_eq_true (by dsimp only;omega);rw[hr];clear hr;(go_enter Tryz.func117,Tryz.ntmps117);(go_wp2_with fail);go_ret;exact⟨rfl,(Below.refl _ _).alloc (Nat.le_refl _) _⟩
          ·(have d9:decide (o+c<=65536)=false:=by simpa using h9);have hr:AY ⟨p,c,o,r,g⟩=false:=decide_eq_false (by dsimp only;omega);rw[hr];clear hr;(go_enter Tryz.func117,Tryz.ntmps117);(go_wp2_with fail);go_ret;exact⟨rfl,(Below.refl _ _).alloc (Nat.le_refl _) _⟩
         ·(have d8:decide (o<65536)=false:=by simpa using h8);have hr:AY ⟨p,c,o,r,g⟩=false:=decide_eq_false (by dsimp only;omega);rw[hr];clear hr;(go_enter Tryz.func117,Tryz.ntmps117);(go_wp2_with fail);go_ret;exact⟨rfl,(Below.refl _ _).alloc (Nat.le_refl _) _⟩
        ·(have d7:decide (0<=o)=false:=by simpa using h7);have hr:AY ⟨p,c,o,r,g⟩=false:=decide_eq_false (by dsimp only;omega);rw[hr];clear hr;(go_enter Tryz.func117,Tryz.ntmps117);(go_wp2_with fail);go_ret;exact⟨rfl,(Below.refl _ _).alloc (Nat.le_refl _) _⟩
theorem Lr (p c o r:Int) (g:Bool) (w:World) (hw:O8 ⟨p,c,o,r,g⟩) : Calls Tryz.prog 106 #[.agg #[.int .i64 p,.int .i64 c,.int .i64 o,.int .i64 r,.bool g]] w fun e w'=>e=.returned (.bool (AY ⟨p,c,o,r,g⟩))/\Below w.heap.size w w':=by
 obtain⟨hp1,hp2,hc1,hc2,ho1,ho2,hr1,hr2⟩:=hw;dsimp only at hp1 hp2 hc1 hc2 ho1 ho2 hr1 hr2;by_cases h0:1<=c
 ·have d0:decide (1<=c)=true:=by simpa using h0
  by_cases h1:0<=p
  ·(have d1:decide (0<=p)=true:=by simpa using h1);by_cases h2:p<=4096-c
   ·(have d2:decide (p<=4096-c)=true:=by simpa using h2);by_cases h3:0<=o
    ·(have d3:decide (0<=o)=true:=by simpa using h3);by_cases h4:o<=65536-c
     ·(have d4:decide (o<=65536-c)=true:=by simpa using h4);by_cases h5:1<=r
      ·(have d5:decide (1<=r)=true:=by simpa using h5);by_cases h6:r<=7
       ·(have d6:decide (r<=7)=true:=by simpa using h6);have hr:AY ⟨p,c,o,r,g⟩=true:=decide_eq_true (by dsimp only;omega);rw[hr];clear hr;(go_enter Tryz.func106,Tryz.ntmps106);(go_wp2_with fail);go_ret;exact⟨rfl,(Below.refl _ _).alloc (Nat.le_refl _) _⟩
       ·(have d6:decide (r<=7)=false:=by simpa using h6);have hr:AY ⟨p,c,o,r,g⟩=false:=decide_eq_false (by dsimp only;omega);rw[hr];clear hr;(go_enter Tryz.func106,Tryz.ntmps106);(go_wp2_with fail);go_ret;exact⟨rfl,(Below.refl _ _).alloc (Nat.le_refl _) _⟩
      ·(have d5:decide (1<=r)=false:=by simpa using h5);have hr:AY ⟨p,c,o,r,g⟩=false:=decide_eq_false (by dsimp only;omega);rw[hr];clear hr;(go_enter Tryz.func106,Tryz.ntmps106);(go_wp2_with fail);go_ret;exact⟨rfl,(Below.refl _ _).alloc (Nat.le_refl _) _⟩
     ·(have d4:decide (o<=65536-c)=false:=by simpa using h4);have hr:AY ⟨p,c,o,r,g⟩=false:=decide_eq_false (by dsimp only;omega);rw[hr];clear hr;(go_enter Tryz.func106,Tryz.ntmps106);(go_wp2_with fail);go_ret;exact⟨rfl,(Below.refl _ _).alloc (Nat.le_refl _) _⟩
    ·(have d3:decide (0<=o)=false:=by simpa using h3);have hr:AY ⟨p,c,o,r,g⟩=false:=decide_eq_false (by dsimp only;omega);rw[hr];clear hr;(go_enter Tryz.func106,Tryz.ntmps106);(go_wp2_with fail);go_ret;exact⟨rfl,(Below.refl _ _).alloc (Nat.le_refl _) _⟩
   ·(have d2:decide (p<=4096-c)=false:=by simpa using h2);have hr:AY ⟨p,c,o,r,g⟩=false:=decide_eq_false (by dsimp only;omega);rw[hr];clear hr;(go_enter Tryz.func106,Tryz.ntmps106);(go_wp2_with fail);go_ret;exact⟨rfl,(Below.refl _ _).alloc (Nat.le_refl _) _⟩
  ·(have d1:decide (0<=p)=false:=by simpa using h1);have hr:AY ⟨p,c,o,r,g⟩=false:=decide_eq_false (by dsimp only;omega);rw[hr];clear hr;(go_enter Tryz.func106,Tryz.ntmps106);(go_wp2_with fail);go_ret;exact⟨rfl,(Below.refl _ _).alloc (Nat.le_refl _) _⟩
 ·have d0:decide (1<=c)=false:=by simpa using h0
  have hr:AY ⟨p,c,o,r,g⟩=false:=decide_eq_false (by dsimp only;omega);rw[hr];clear hr;go_enter Tryz.func106,Tryz.ntmps106
  go_wp2_with fail
  go_ret;exact⟨rfl,(Below.refl _ _).alloc (Nat.le_refl _) _⟩
structure Tz where
 addr:Int
 word:Int
def Ti:E8 Tz:=⟨188,2,fun x=>[.int .i64 x.addr,.int .u64 x.word],⟨0,0⟩,by omega,fun _=>rfl⟩
structure Sj where
 page:Int
 size:Int
 out:Int
 perm:Int
 doom:Bool
def Ys:E8 Sj:=⟨60,5,fun x=>[.int .i64 x.page,.int .i64 x.size,.int .i64 x.out,.int .i64 x.perm,.bool x.doom],⟨0,0,0,0,false⟩,by omega,fun _=>rfl⟩
structure YG where
 level:Int
 page:Int
 table:Int
 doom:Bool
def Z0:E8 YG:=⟨65,4,fun x=>[.int .i64 x.level,.int .i64 x.page,.int .i64 x.table,.bool x.doom],⟨0,0,0,false⟩,by omega,fun _=>rfl⟩
structure Fq where
 mem:List Int
 pend:List Tz
 tlb:List Sj
 wc:List YG
structure YZ (S:Nat->Prop) (w w':World):Prop where
 os:w'.os=w.os
 tape:w'.tape=w.tape
 output:w'.output=w.output
 size:w.heap.size<=w'.heap.size
 block:∀k,k<w.heap.size->¬S k->w'.heap[k]?=w.heap[k]?
theorem A6.touch {α:Type} {E:E8 α} {w w':World} {base:Nat} {v:Value} {xs:List α} {S:Nat->Prop} (h:A6 E w base v xs) (hg:YZ S w w') (hne:∀k,v.ownBlock=some k->¬S k):A6 E w' base v xs:=by
 refine⟨h.1,?_⟩;rcases h.2 with hh|⟨g,cap,cur,e,hb,hgg,r⟩
 ·exact .inl hh
 ·refine .inr ⟨g,cap,cur,e,hb,?_,r⟩;rw[hg.block g (Array.getElem?_eq_some_iff.1 hgg).1 (hne g (by rw[e];rfl))];exact hgg
end Go.Proofs.YtnmhkgmmpkjjeaaGreat
namespace Go.Proofs.YtnmhkgmmpkjjeaaGreat
open Go.ChangeShapes Go.WideShapes Go.ChangeAt Go.RowKit
set_option linter.unusedVariables false
def Fw (p:Int):Bool:=decide (0<=p)&&decide (p<4096)
def QT (c:Int) (b:Nat):Bool:=decide (c/2 ^ b%2=1)
def NY (page level:Int):Int:=if level=1 then page/256 else if level=2 then page/16%16 else page%16
theorem Q3 (p:Int) (w:World) : Calls Tryz.prog 58 #[.int .i64 p] w fun e w'=>e=.returned (.bool (Fw p))/\w'=w:=by
 unfold Fw;by_cases h:0<=p
 ·have h':decide (0<=p)=true:=by simpa using h
  rw[h'];by_cases k:p<4096
  ·(have k':decide (p<4096)=true:=by simpa using k);rw[k'];(go_enter Tryz.func58,Tryz.ntmps58);(go_wp2);go_ret;exact⟨rfl,rfl⟩
  ·(have k':decide (p<4096)=false:=by simpa using k);rw[k'];(go_enter Tryz.func58,Tryz.ntmps58);(go_wp2);go_ret;exact⟨rfl,rfl⟩
 ·have h':decide (0<=p)=false:=by simpa using h
  rw[h'];go_enter Tryz.func58,Tryz.ntmps58
  go_wp2
  go_ret;exact⟨rfl,rfl⟩
theorem SI (p l:Int) (hp0:0<=p) (hp1:p<4096) (w:World) : Calls Tryz.prog 131 #[.int .i64 p,.int .i64 l] w fun e w'=>e=.returned (.int .i64 (NY p l))/\w'=w:=by
 by_cases h1:l=1
 ·subst h1;go_enter Tryz.func131,Tryz.ntmps131
  go_wp2
  go_ret;exact⟨rfl,rfl⟩
 ·by_cases h2:l=2
  ·subst h2;(go_enter Tryz.func131,Tryz.ntmps131);(go_wp2);go_ret;exact⟨rfl,rfl⟩
  ·(have e:NY p l=p%16:=by simp[NY,h1,h2]);rw[e];(have h1':(l==1)=false:=by simpa using h1);(have h2':(l==2)=false:=by simpa using h2);clear e h1 h2;(go_enter Tryz.func131,Tryz.ntmps131);(go_wp2);go_ret;exact⟨rfl,rfl⟩
theorem Xr (p l:Int) (hp0:0<=p) (hp1:p<4096):0<=NY p l/\NY p l<16:=by
 unfold NY;by_cases a:l=1<;>by_cases b:l=2<;>simp[a,b]<;>omega
def YR (a b:Sj):Bool:=decide (a.page=b.page)&&decide (a.size=b.size)&&decide (a.out=b.out)&&decide (a.perm=b.perm)
def YK (e:YG) (p:Int):Bool:=decide (p-p%CH (e.level-1)=e.page)
end Go.Proofs.YtnmhkgmmpkjjeaaGreat
namespace Go.Proofs.YtnmhkgmmpkjjeaaGreat
open Go.ChangeShapes Go.WideShapes Go.ChangeAt Go.RowKit
set_option linter.unusedVariables false
attribute [local go_sem ↓] Go.wp_at_zero Go.wp_at_succ

end Go.Proofs.YtnmhkgmmpkjjeaaGreat
namespace Go.Proofs.YtnmhkgmmpkjjeaaGreat
open Go.ChangeShapes Go.WideShapes Go.ChangeAt Go.RowKit
set_option linter.unusedVariables false
def TR (M:Fq) (a:Int):Nat->Int
 | 0=>M.mem.getD a.toNat 0
 | k+1=>if (AI Ti M.pend k).addr=a then (AI Ti M.pend k).word else TR M a k
def Wh (M:Fq) (a:Int) (late:Bool):Int:=if late then TR M a M.pend.length else M.mem.getD a.toNat 0
structure DH where
 kind:Int
 out:Int
 perm:Int
 size:Int
def Oz (h:DH):Value:=.agg #[.int .i64 h.kind,.int .i64 h.out,.int .i64 h.perm,.int .i64 h.size]
def Ya (f:Nat->Bool) (n:Nat):Bool:=(List.range n).any f
def Yw (a b:YG):Bool:=decide (a.level=b.level)&&decide (a.page=b.page)&&decide (a.table=b.table)&&(a.doom==b.doom)
def Yh (a b:Sj):Bool:=YR a b&&(a.doom==b.doom)
def YN (M:Fq) (e:YG):Bool:=Ya (fun i=>Yw (AI Z0 M.wc i) e) M.wc.length
def Xi (M:Fq) (e:Sj):Bool:=Ya (fun i=>Yh (AI Ys M.tlb i) e) M.tlb.length
def Y0 (M:Fq) (e:YG):Fq:=if YN M e||decide (256<=M.wc.length) then M else ⟨M.mem,M.pend,M.tlb,M.wc++[e]⟩
def Vb (M:Fq) (e:Sj):Fq:=if Xi M e||decide (256<=M.tlb.length) then M else ⟨M.mem,M.pend,M.tlb++[e],M.wc⟩
def CA (M:Fq) (page choice level frame:Int):Int:=Wh M (frame*16+NY page level) (QT choice level.toNat)
def Ok (level x:Int):Int:=if AF level x=2 then 16 else 1
def Tc (page choice:Int) (M:Fq) (level x:Int) (doom:Bool):Fq×DH :=
 if AF level x=0 then (M,⟨0,0,0,0⟩)
 else if AF level x=2\/AF level x=3 then
  (if QT choice 6 then Vb M ⟨page-page%Ok level x,Ok level x,AQ level x,Ae level x,doom⟩ else M,⟨1,AQ level x+page%Ok level x,Ae level x,Ok level x⟩)
 else (M,⟨3,0,0,0⟩)
def Tk (M:Fq) (level x:Int):Bool:=decide (AF level x=1)&&decide (AQ level x<An M.mem.length)
def TF (page choice:Int) (M:Fq) (level x:Int) (doom:Bool):Fq :=
 if QT choice (level+3).toNat then Y0 M ⟨level+1,page-page%CH level,AQ level x,doom⟩ else M
def Ww (page choice:Int):Nat->Fq->Int->Int->Bool->Fq×DH
 | 0,M,level,frame,doom=>Tc page choice M level (CA M page choice level frame) doom
 | d+1,M,level,frame,doom =>
  if Tk M level (CA M page choice level frame) then
   Ww page choice d (TF page choice M level (CA M page choice level frame) doom) (level+1) (AQ level (CA M page choice level frame)) doom
  else Tc page choice M level (CA M page choice level frame) doom
def Yx (M:Fq) (page level:Int) (i:Nat):Bool:=decide ((AI Z0 M.wc i).level=level)&&YK (AI Z0 M.wc i) page
end Go.Proofs.YtnmhkgmmpkjjeaaGreat
