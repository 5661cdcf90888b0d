import Derived.Test.YtnmhkgmmpkjjeaaGreatM25
namespace Go.Proofs.YtnmhkgmmpkjjeaaGreat
open ChangeShapes WideShapes ChangeAt RowKit Proofs.Tryz
set_option linter.all false
set_option maxRecDepth 100000
set_option maxHeartbeats 4000000
attribute [local go_sem ↓] wp_at_zero wp_at_succ
structure Gm (wp w:World) (gp OP PV:Nat) (a:Option Addr) (c:Nat) (l:List BP):Prop where
 ops:EA w OP wp.heap.size a c l
 pl:Bl wp w
 pv:w.cell? ⟨PV,0,none⟩=some (.pointer (some ⟨gp,0,none⟩))
 vlt:PV<w.heap.size
 vo:PV≠OP
 va:oB a≠some PV
 lo:wp.heap.size<=OP
theorem Gm.below{wp w w':World}{gp OP PV c:Nat}{a:Option Addr}{l:List BP}(h:Gm wp w gp OP PV a c l)(hb:Bl w w'):Gm wp w' gp OP PV a c l :=
 ⟨h.ops.below hb,Ab h.pl hb,(hb.cell (p:=⟨PV,0,none⟩) h.vlt).trans h.pv,Nat.lt_of_lt_of_le h.vlt hb.size,h.vo,h.va,h.lo⟩
theorem Gm.step{wp w w':World}{gp OP PV c c':Nat}{a a':Option Addr}{l l':List BP}(h:Gm wp w gp OP PV a c l)(ho:EA w' OP wp.heap.size a' c' l')(ht:BF (fun k=>k=OP\/oB a=some k) w w')(hn:∀k,oB a'=some k->oB a=some k\/w.heap.size<=k):Gm wp w' gp OP PV a' c' l':=by
 have nv:¬(PV=OP\/oB a=some PV):=fun hh=>hh.elim h.vo h.va
 refine⟨ho,?_,(ht.cell (p:=⟨PV,0,none⟩) h.vlt nv).trans h.pv,Nat.lt_of_lt_of_le h.vlt ht.size,h.vo,?_,h.lo⟩
 ·refine((BF.of_below (S:=fun k=>wp.heap.size<=k) h.pl).then ht (fun k hk hh=>?_)).below (fun k hk hh=>by omega);rcases hh with e|e
  ·have:=h.lo;omega
  ·have:=(h.ops.own k e).1;omega
 ·intro e;rcases hn _ e with e2|e2
  ·exact h.va e2
  ·have:=h.vlt;omega
def NO (wp:World) (OP PB:Nat) (l:List BP) (zs:List Int) (H:Nat->Ht) (all:List P3) (S:Nat->Prop) (es:List En) (w:World):Prop :=
 (∃a c,EA w OP wp.heap.size a c (l++Ac zs H all es)/\S=(fun k=>k=OP\/oB a=some k)/\oB a≠some PB)/\Bl wp w/\w.cell? ⟨PB,0,none⟩=some (GO OP)/\PB<w.heap.size
theorem WQ(wp:World)(OP PB:Nat)(l:List BP)(zs:List Int)(H:Nat->Ht)(all:List P3)(hzr:∀i,0<=zs.getD i 0/\zs.getD i 0<18446744073709551616)(hl:l.length<=700000)(hlo:wp.heap.size<=OP)(hpo:PB≠OP):K7 186 PB zs H all wp (NO wp OP PB l zs H all):=by
 refine⟨fun a b w=>?_,?_,?_,?_,?_⟩
 ·kernel_rfl
 ·rintro S es e wX ⟨⟨a,c,ho,rfl,hn⟩,hb,hc,hlt⟩ ⟨lv,pg,ad,rfl,h1,h3,h4,h5⟩ hes;have hlen:(l++Ac zs H all es).length<=900000:=by
   rw[List.length_append];have:=EK zs H all es;omega
  refine(RO PB OP wp.heap.size c a (l++Ac zs H all es) zs H all lv pg ad wX hlen (hzr _) hc hlt ho).mono ?_;rintro r w' ⟨rfl,a',c',h6,h7,h8⟩;have nv:¬(PB=OP\/oB a=some PB):=fun hh=>hh.elim hpo hn
  refine⟨rfl,fun k=>k=OP\/oB a'=some k,⟨⟨a',c',?_,rfl,?_⟩,?_,(h7.cell (p:=⟨PB,0,none⟩) hlt nv).trans hc,Nat.lt_of_lt_of_le hlt h7.size⟩,h7,?_⟩
  ·rw[K9,<- List.append_assoc];exact h6
  ·intro e;rcases h8 _ e with e2|e2
   ·exact hn e2
   ·omega
  ·refine((BF.of_below (S:=fun k=>wp.heap.size<=k) hb).then h7 (fun k hk hh=>?_)).below (fun k hk hh=>by omega);rcases hh with e|e
   ·omega
   ·have:=(ho.own k e).1;omega
  ·intro k hk hh;rcases hh with e|e
   ·exact .inl e
   ·rcases h8 _ e with e2|e2
    ·exact .inr e2
    ·omega
 ·rintro S es wX wY ⟨⟨a,c,ho,rfl,hn⟩,hb,hc,hlt⟩ hX;exact⟨⟨a,c,ho.below hX,rfl,hn⟩,Ab hb hX,(hX.cell (p:=⟨PB,0,none⟩) hlt).trans hc,Nat.lt_of_lt_of_le hlt hX.size⟩
 ·rintro S es wX ⟨_,hb,_⟩;exact hb
 ·rintro S es wX ⟨⟨a,c,ho,rfl,hn⟩,hb,hc,hlt⟩ k hk;rcases hk with e|e
  ·rw[e];exact ho.lt
  ·exact(ho.own k e).2
theorem UG(wp:World)(gp gz cz gl M OP PV c:Nat)(a:Option Addr)(l:List BP)(zs:List Int)(H:Nat->Ht)(kept fs:List P3)(w:World)(hzr:∀i,0<=zs.getD i 0/\zs.getD i 0<18446744073709551616)(hl:l.length<=700000)(hP:Io wp gp gz cz gl M zs H (BZ kept fs))(hK:Tq zs H kept fs)(h:Gm wp w gp OP PV a c l):Calls prog 184 #[GO OP,.pointer (some ⟨PV,0,none⟩)] w (Dr OP wp.heap.size a (l++Ac zs H (kept++fs) (Bf kept 4096)) w):=by
 obtain⟨wb,hwb⟩:∃wb,wb=w.alloc (.cells #[GO OP] 230):=⟨_,rfl⟩
 have hb0:Bl w wb:=by rw[hwb];exact AO
 have h1:=h.below hb0;have hev:=WQ wp OP w.heap.size l zs H (kept++fs) hzr hl h.lo (by have:=h.ops.lt;omega);have hst:NO wp OP w.heap.size l zs H (kept++fs) (fun k=>k=OP\/oB a=some k) [] wb:=by
  refine⟨⟨a,c,?_,rfl,fun e=>by have:=(h.ops.own _ e).2;omega⟩,h1.pl,?_,by rw[hwb];simp⟩
  ·have e0:Ac zs H (kept++fs) []=[]:=rfl;rw[e0,List.append_nil];exact h1.ops
  ·rw[hwb];simp[go_sem]
 have hek:=GS hev hP hK _ wb hst;have p1:=h.pv;have hvl:=h.vlt;have HE:Hid (∀r w',Fb (NO wp OP w.heap.size l zs H (kept++fs)) (fun k=>k=OP\/oB a=some k) (Bf kept 4096) wb r w'->Dr OP wp.heap.size a (l++Ac zs H (kept++fs) (Bf kept 4096)) w r w'):=A9 <| by
  rintro r w' ⟨rfl,S',⟨⟨a',c',ho,rfl,hn⟩,hb,hc,hlt⟩,ht,hs⟩;refine⟨rfl,a',c',ho,(BF.of_below hb0).then ht (fun k _ hh=>hh),fun k hk=>?_⟩;by_cases hkw:k<w.heap.size
  ·rcases hs k (by have:=hb0.size;omega) (.inr hk) with e|e
   ·exact absurd (by rw[hk,e]) ho.off
   ·exact .inl e
  ·exact .inr (by omega)
 have HWB:=A5 hwb;clear hwb hb0 h1 hev hst h hP hK;unfold GO at *;go_enter func184,ntmps184
 go_wp2_with fail
 rw[<- HWB.out];refine hek.mono ?_;rintro r w1 hv;obtain⟨rfl,hp⟩:=HE.out _ _ hv;clear hek hv;go_wp2_with fail
 refine bodyPost_end (v:=.tuple #[]) (by simp[results,results184,go_sem]) rfl ?_;exact⟨rfl,hp⟩
def Nj (wp:World) (OP PB:Nat) (l:List BP) (zs:List Int) (H:Nat->Ht) (all:List P3) (S:Nat->Prop) (es:List En) (w:World):Prop :=
 (∃a c,EA w OP wp.heap.size a c (l++Ai zs H all es)/\S=(fun k=>k=OP\/oB a=some k)/\oB a≠some PB)/\Bl wp w/\w.cell? ⟨PB,0,none⟩=some (GO OP)/\PB<w.heap.size
theorem Wm(wp:World)(OP PB:Nat)(l:List BP)(zs:List Int)(H:Nat->Ht)(all:List P3)(hzr:∀i,0<=zs.getD i 0/\zs.getD i 0<18446744073709551616)(hl:l.length<=700000)(hlo:wp.heap.size<=OP)(hpo:PB≠OP):K7 195 PB zs H all wp (Nj wp OP PB l zs H all):=by
 refine⟨fun a b w=>?_,?_,?_,?_,?_⟩
 ·kernel_rfl
 ·rintro S es e wX ⟨⟨a,c,ho,rfl,hn⟩,hb,hc,hlt⟩ ⟨lv,pg,ad,rfl,h1,h3,h4,h5⟩ hes;have hlen:(l++Ai zs H all es).length<=900000:=by
   rw[List.length_append];have:=ER zs H all es;omega
  refine(Qj PB OP wp.heap.size c a (l++Ai zs H all es) zs H all lv pg ad wX hlen (hzr _) hc hlt ho).mono ?_;rintro r w' ⟨rfl,a',c',h6,h7,h8⟩;have nv:¬(PB=OP\/oB a=some PB):=fun hh=>hh.elim hpo hn
  refine⟨rfl,fun k=>k=OP\/oB a'=some k,⟨⟨a',c',?_,rfl,?_⟩,?_,(h7.cell (p:=⟨PB,0,none⟩) hlt nv).trans hc,Nat.lt_of_lt_of_le hlt h7.size⟩,h7,?_⟩
  ·rw[KH,<- List.append_assoc];exact h6
  ·intro e;rcases h8 _ e with e2|e2
   ·exact hn e2
   ·omega
  ·refine((BF.of_below (S:=fun k=>wp.heap.size<=k) hb).then h7 (fun k hk hh=>?_)).below (fun k hk hh=>by omega);rcases hh with e|e
   ·omega
   ·have:=(ho.own k e).1;omega
  ·intro k hk hh;rcases hh with e|e
   ·exact .inl e
   ·rcases h8 _ e with e2|e2
    ·exact .inr e2
    ·omega
 ·rintro S es wX wY ⟨⟨a,c,ho,rfl,hn⟩,hb,hc,hlt⟩ hX;exact⟨⟨a,c,ho.below hX,rfl,hn⟩,Ab hb hX,(hX.cell (p:=⟨PB,0,none⟩) hlt).trans hc,Nat.lt_of_lt_of_le hlt hX.size⟩
 ·rintro S es wX ⟨_,hb,_⟩;exact hb
 ·rintro S es wX ⟨⟨a,c,ho,rfl,hn⟩,hb,hc,hlt⟩ k hk;rcases hk with e|e
  ·rw[e];exact ho.lt
  ·exact(ho.own k e).2
theorem UT(wp:World)(gp gz cz gl M OP PV c:Nat)(a:Option Addr)(l:List BP)(zs:List Int)(H:Nat->Ht)(kept fs:List P3)(w:World)(hzr:∀i,0<=zs.getD i 0/\zs.getD i 0<18446744073709551616)(hl:l.length<=700000)(hP:Io wp gp gz cz gl M zs H (BZ kept fs))(hK:Tq zs H kept fs)(h:Gm wp w gp OP PV a c l):Calls prog 194 #[GO OP,.pointer (some ⟨PV,0,none⟩)] w (Dr OP wp.heap.size a (l++Ai zs H (kept++fs) (Bf kept 4096)) w):=by
 obtain⟨wb,hwb⟩:∃wb,wb=w.alloc (.cells #[GO OP] 230):=⟨_,rfl⟩
 have hb0:Bl w wb:=by rw[hwb];exact AO
 have h1:=h.below hb0;have hev:=Wm wp OP w.heap.size l zs H (kept++fs) hzr hl h.lo (by have:=h.ops.lt;omega);have hst:Nj wp OP w.heap.size l zs H (kept++fs) (fun k=>k=OP\/oB a=some k) [] wb:=by
  refine⟨⟨a,c,?_,rfl,fun e=>by have:=(h.ops.own _ e).2;omega⟩,h1.pl,?_,by rw[hwb];simp⟩
  ·have e0:Ai zs H (kept++fs) []=[]:=rfl;rw[e0,List.append_nil];exact h1.ops
  ·rw[hwb];simp[go_sem]
 have hek:=GS hev hP hK _ wb hst;have p1:=h.pv;have hvl:=h.vlt;have HE:Hid (∀r w',Fb (Nj wp OP w.heap.size l zs H (kept++fs)) (fun k=>k=OP\/oB a=some k) (Bf kept 4096) wb r w'->Dr OP wp.heap.size a (l++Ai zs H (kept++fs) (Bf kept 4096)) w r w'):=A9 <| by
  rintro r w' ⟨rfl,S',⟨⟨a',c',ho,rfl,hn⟩,hb,hc,hlt⟩,ht,hs⟩;refine⟨rfl,a',c',ho,(BF.of_below hb0).then ht (fun k _ hh=>hh),fun k hk=>?_⟩;by_cases hkw:k<w.heap.size
  ·rcases hs k (by have:=hb0.size;omega) (.inr hk) with e|e
   ·exact absurd (by rw[hk,e]) ho.off
   ·exact .inl e
  ·exact .inr (by omega)
 have HWB:=A5 hwb;clear hwb hb0 h1 hev hst h hP hK;unfold GO at *;go_enter func194,ntmps194
 go_wp2_with fail
 rw[<- HWB.out];refine hek.mono ?_;rintro r w1 hv;obtain⟨rfl,hp⟩:=HE.out _ _ hv;clear hek hv;go_wp2_with fail
 refine bodyPost_end (v:=.tuple #[]) (by simp[results,results194,go_sem]) rfl ?_;exact⟨rfl,hp⟩
def CG (wp w w':World) (gp OP PV:Nat) (a:Option Addr) (l':List BP):Prop:=∃a' c',Gm wp w' gp OP PV a' c' l'/\BF (fun k=>k=OP\/oB a=some k) w w'/\(∀k,oB a'=some k->oB a=some k\/w.heap.size<=k)
theorem CG.start{wp w w':World}{gp OP PV c:Nat}{a:Option Addr}{l:List BP}(h:Gm wp w gp OP PV a c l)(hb:Bl w w'):CG wp w w' gp OP PV a l:=⟨a,c,h.below hb,BF.of_below hb,fun k hk=>.inl hk⟩
theorem CG.put{wp w w1 w2:World}{gp OP PV c1:Nat}{a a1:Option Addr}{l1 l2:List BP}{r:Ending}(h:Gm wp w1 gp OP PV a1 c1 l1)(ht:BF (fun k=>k=OP\/oB a=some k) w w1)(hn:∀k,oB a1=some k->oB a=some k\/w.heap.size<=k)(hp:Dr OP wp.heap.size a1 l2 w1 r w2):r=.returned (.tuple #[])/\CG wp w w2 gp OP PV a l2:=by
 obtain⟨e,a2,c2,h1,h2,h3⟩:=hp;refine⟨e,a2,c2,h.step h1 h2 h3,ht.then h2 (fun k hk hh=>?_),fun k hk=>?_⟩
 ·rcases hh with e|e
  ·exact .inl e
  ·rcases hn k e with e2|e2
   ·exact .inr e2
   ·omega
 ·rcases h3 k hk with e|e
  ·exact hn k e
  ·exact .inr (Nat.le_trans ht.size e)
theorem CG.trans{wp w w1 w2:World}{gp OP PV c1:Nat}{a a1:Option Addr}{l1 l2:List BP}(ht:BF (fun k=>k=OP\/oB a=some k) w w1)(hn:∀k,oB a1=some k->oB a=some k\/w.heap.size<=k)(hp:CG wp w1 w2 gp OP PV a1 l2):CG wp w w2 gp OP PV a l2:=by
 obtain⟨a2,c2,h1,h2,h3⟩:=hp;refine⟨a2,c2,h1,ht.then h2 (fun k hk hh=>?_),fun k hk=>?_⟩
 ·rcases hh with e|e
  ·exact .inl e
  ·rcases hn k e with e2|e2
   ·exact .inr e2
   ·omega
 ·rcases h3 k hk with e|e
  ·exact hn k e
  ·exact .inr (Nat.le_trans ht.size e)
theorem CG.fin{wp w w':World}{gp OP PV:Nat}{a:Option Addr}{l':List BP}(h:CG wp w w' gp OP PV a l'):Dr OP wp.heap.size a l' w (.returned (.tuple #[])) w':=by
 obtain⟨a',c',h1,h2,h3⟩:=h;exact⟨rfl,a',c',h1.ops,h2,h3⟩
def Tl (x:Int):BP:=⟨4,x,0,0⟩
theorem Ov(gone:List P3)(n:Nat):As n gone=(Dj gone n).map Tl:=by
 unfold As Dj C4;rw[List.map_map];rfl
theorem M8(xs:List Int)(i:Nat)(hi:i<xs.length):(xs.take (i+1)).map Tl=(xs.take i).map Tl++[Tl (AQ Ae xs i)]:=by
 rw[D6 Ae xs i hi,List.map_append];rfl
theorem TU(wp:World)(gp OP PV c cR bR:Nat)(a aR:Option Addr)(l:List BP)(rt:List Int)(w:World)(hl:l.length<=700000)(hrl:rt.length<=1000)(hg:gp<wp.heap.size)(c4:wp.cell? ⟨gp,4,none⟩=some (.slice aR rt.length cR))(hr:A8 Ae wp bR (.slice aR rt.length cR) rt)(h:Gm wp w gp OP PV a c l):Calls prog 191 #[GO OP,.pointer (some ⟨PV,0,none⟩)] w (Dr OP wp.heap.size a (l++rt.map Tl) w):=by
 have p1:=h.pv;have HG:Hid (∀wX,Bl wp wX->wX.cell? ⟨gp,4,none⟩=some (.slice aR rt.length cR)/\A8 Ae wX bR (.slice aR rt.length cR) rt):=fun wX hX=>⟨(hX.cell (p:=⟨gp,4,none⟩) hg).trans c4,hr.below hX⟩
 have g4:=(HG.out w h.pl).1;have HST:Hid (CG wp w w gp OP PV a (l++(rt.take 0).map Tl)):=A9 <| by
  rw[List.take_zero,List.map_nil,List.append_nil];exact CG.start h AH
 clear h c4 hr;unfold GO;go_enter func191,ntmps191
 go_wp2_with fail
 go_loopw [11] (fun iv wr=>∃i:Nat,i<=rt.length/\iv=.int .i64 i/\CG wp w wr gp OP PV a (l++(rt.take i).map Tl)) (fun iv _=>rt.length-(intOf iv).toNat)
 case atStart=>exact⟨0,Nat.zero_le _,rfl,HST.out⟩
 case round =>
  obtain⟨i,hi,rfl,a1,c1,he,ht,hn⟩:=hrel;by_cases hlt:i<rt.length
  ·have hrw:=(HG.out wr he.pl).2;obtain⟨g,rfl⟩:∃g,aR=some ⟨g,0,none⟩:=by
    obtain⟨a',c',e,h1⟩:=hrw.form;obtain⟨g,N,f,e2,_⟩:=h1 (by omega);simp only[Value.slice.injEq] at e;exact⟨g,by rw[e.1,e2]⟩
   obtain⟨hgl,x0⟩:=Ch hrw i hlt;(obtain⟨X,hX⟩:∃X,AQ Ae rt i=X:=⟨_,rfl⟩);rw[hX] at x0;(have HL:Hid (l++(rt.take (i+1)).map Tl=(l++(rt.take i).map Tl)++[⟨4,X,0,0⟩]):=A9 <| by rw[M8 rt i hlt,hX,List.append_assoc];rfl);have hput:=Hb OP wp.heap.size c1 a1 (l++(rt.take i).map Tl) ⟨4,X,0,0⟩ wr (by rw[List.length_append,List.length_map,List.length_take];omega) he.ops;(have L1:(0:Int)<=(i:Int):=by omega);(have L2:(i:Int)<(rt.length:Int):=by omega);have HE:=A5 he;have HT:=A5 ht;have HN:=A5 hn;clear he ht hn hrw hX;dsimp only at hput;(go_wp2_with fail);refine hput.mono ?_;rintro r w2 hp;obtain⟨rfl,hr2⟩:=CG.put HE.out HT.out HN.out hp;clear hput hp;(go_wp2_with fail);go_roundw;(case rel=>exact⟨i+1,by omega,by go_num,by rw[HL.out];exact hr2⟩);case measure=>simp[intOf];omega
  ·(have ei:i=rt.length:=by omega);subst ei;rw[List.take_length] at he;(go_wp2_with fail);refine bodyPost_end (v:=.tuple #[]) (by simp[results,results191,go_sem]) rfl ?_;exact CG.fin ⟨a1,c1,he,ht,hn⟩
theorem Tc(wp:World)(gp gz cz gl M OP PV c cC bC:Nat)(a aC:Option Addr)(l:List BP)(zs:List Int)(H:Nat->Ht)(kept fs:List P3)(w:World)(hzl:zs.length<=1048576)(hl:l.length<=700000)(hfl:fs.length<=1000)(hP:Io wp gp gz cz gl M zs H (BZ kept fs))(hO:Wu zs H kept fs)(hF:∀q∈fs,∃F lv pg:Nat,q=⟨F,lv,pg⟩/\1<=lv/\lv<=3/\pg+Ga lv<=4096/\F*16+16<=zs.length)(c3:wp.cell? ⟨gp,3,none⟩=some (.slice aC fs.length cC))(hr:A8 Fk wp bC (.slice aC fs.length cC) fs)(h:Gm wp w gp OP PV a c l):Calls prog 192 #[GO OP,.pointer (some ⟨PV,0,none⟩)] w (Dr OP wp.heap.size a (l++AU H (kept++fs) fs) w):=by
 have p1:=h.pv;have hg:=hP.lt;have HG:Hid (∀wX,Bl wp wX->wX.cell? ⟨gp,3,none⟩=some (.slice aC fs.length cC)/\A8 Fk wX bC (.slice aC fs.length cC) fs):=fun wX hX=>⟨(hX.cell (p:=⟨gp,3,none⟩) hg).trans c3,hr.below hX⟩
 have g3:=(HG.out w h.pl).1;have HST:Hid (CG wp w w gp OP PV a (l++AU H (kept++fs) (fs.take 0))):=A9 <| by
  have e0:AU H (kept++fs) (fs.take 0)=[]:=rfl;rw[e0,List.append_nil];exact CG.start h AH
 have HF:=A5 hF;have HPS:Hid (∀wX,Bl wp wX->Io wX gp gz cz gl M zs H (BZ kept fs)):=fun wX hX=>hP.below hX
 have HO:=A5 hO;clear h c3 hr hP hO hF;unfold GO;go_enter func192,ntmps192
 go_wp2_with fail
 go_loopw [12] (fun iv wr=>∃t:Nat,t<=fs.length/\iv=.int .i64 t/\CG wp w wr gp OP PV a (l++AU H (kept++fs) (fs.take t))) (fun iv _=>fs.length-(intOf iv).toNat)
 case atStart=>exact⟨0,Nat.zero_le _,rfl,HST.out⟩
 case round =>
  obtain⟨wo,hwo⟩:∃wo:World,wo=wr:=⟨_,rfl⟩
  subst hwo;obtain⟨t,ht0,rfl,a1,c1,he,ht,hn⟩:=hrel;by_cases hlt:t<fs.length
  ·obtain⟨F,lv,pg,hE,l1,l3,lp,lF⟩:=HF.out _ (Hr hlt);have hrw:=(HG.out wo he.pl).2;obtain⟨g,rfl⟩:∃g,aC=some ⟨g,0,none⟩:=by
    obtain⟨a',c',e,h1⟩:=hrw.form;obtain⟨g,N,f,e2,_⟩:=h1 (by omega);simp only[Value.slice.injEq] at e;exact⟨g,by rw[e.1,e2]⟩
   obtain⟨hgl,x0,x1,x2⟩:=Hv hrw t hlt;rw[hE] at x0 x1 x2;dsimp only at x0 x1 x2;(obtain⟨ll,hll⟩:∃ll,l++AU H (kept++fs) (fs.take t)=ll:=⟨_,rfl⟩);have hlen:ll.length<=720000:=by
    rw[<- hll,List.length_append,Da,List.length_take];omega
   rw[hll] at he;(have HL:Hid (l++AU H (kept++fs) (fs.take (t+1))=ll++B6 H (kept++fs) ⟨F,lv,pg⟩ 16):=A9 <| by rw[KK H (kept++fs) fs t hlt,hE,<- List.append_assoc,hll]);(obtain⟨wz,hwz⟩:∃wz,wz=wo.alloc (.cells #[.int .i64 F,.int .i64 lv,.int .i64 pg] 67):=⟨_,rfl⟩);(have hbz:Bl wo wz:=by rw[hwz];exact AO);(have z0:wz.cell? ⟨wo.heap.size,0,none⟩=some (.int .i64 F):=by rw[hwz];simp[go_sem]);(have z1:wz.cell? ⟨wo.heap.size,1,none⟩=some (.int .i64 lv):=by rw[hwz];simp[go_sem]);(have z2:wz.cell? ⟨wo.heap.size,2,none⟩=some (.int .i64 pg):=by rw[hwz];simp[go_sem]);(have N0:wo.heap.size<wz.heap.size:=by rw[hwz];simp);have hez:=he.below hbz;have HNZ:Hid (¬(wo.heap.size=OP\/oB a1=some wo.heap.size)):=A9 <| fun hh=>by
    rcases hh with e|e
    ·have:=he.ops.lt;omega
    ·have:=(he.ops.own _ e).2;omega
   have HSZ:Hid (CG wp wz wz gp OP PV a1 (ll++B6 H (kept++fs) ⟨F,lv,pg⟩ 0)):=A9 <| by
    have e0:B6 H (kept++fs) ⟨F,lv,pg⟩ 0=[]:=rfl;rw[e0,List.append_nil];exact CG.start hez AH
   have HTZ:Hid (BF (fun k=>k=OP\/oB a=some k) w wz):=ht.then (BF.of_below (S:=fun _=>False) hbz) (fun k _ h=>h.elim);have HZC:Hid (wz.cell? ⟨wo.heap.size,0,none⟩=some (.int .i64 F)/\wz.cell? ⟨wo.heap.size,1,none⟩=some (.int .i64 lv)/\wz.cell? ⟨wo.heap.size,2,none⟩=some (.int .i64 pg)):=⟨z0,z1,z2⟩;(have L1:(0:Int)<=(t:Int):=by omega);(have L2:(t:Int)<(fs.length:Int):=by omega);have HN:=A5 hn;have HWZ:=A5 hwz;clear he ht hn hrw hll hwz hbz z0 z1 z2 hez;(go_wp2_with fail);rw[<- HWZ.out];(go_loopw [16] (fun iv wr2=>∃i:Nat,i<=16/\iv=.int .i64 i/\CG wp wz wr2 gp OP PV a1 (ll++B6 H (kept++fs) ⟨F,lv,pg⟩ i)) (fun iv _=>16-(intOf iv).toNat));(case atStart=>exact⟨0,Nat.zero_le _,rfl,HSZ.out⟩);case round =>
    obtain⟨i,hi,rfl,a2,c2,he,ht,hn⟩:=hrel;by_cases hlti:i<16
    ·have hent:=Jx gp gz cz gl M zs H kept fs F lv pg i wr hzl l1 l3 hlti lp lF HO.out (HPS.out wr he.pl);(obtain⟨X,hX⟩:∃X,pg+i*Ay lv=X:=⟨_,rfl⟩);(obtain⟨AD,hAD⟩:∃AD,F*16+i=AD:=⟨_,rfl⟩);rw[hX,hAD] at hent;unfold GZ at hent;(obtain⟨R,hR⟩:∃R,C3 H (kept++fs) lv X=R:=⟨_,rfl⟩);rw[hR] at hent;generalize Fl zs AD=Z at hent;(obtain⟨l2,hl2⟩:∃l2,ll++B6 H (kept++fs) ⟨F,lv,pg⟩ i=l2:=⟨_,rfl⟩);have HL2:Hid (ll++B6 H (kept++fs) ⟨F,lv,pg⟩ (i+1)=l2++[⟨1,AD,0,R⟩]):=A9 <| by
      (have e1:(pg:Int)+(i:Int)*BX (lv:Int)=(X:Int):=by rw[Cx lv,<- hX];simp);(have e2:(F:Int)*16+(i:Int)=(AD:Int):=by rw[<- hAD];simp);rw[Iy,<- List.append_assoc,hl2];dsimp only;rw[e1,e2,hR]
     (have hlen2:l2.length<=800000:=by rw[<- hl2,List.length_append,Gf];omega);rw[hl2] at he;(have HPUT:Hid (∀wX,Bl wr wX->Calls prog 146 #[.agg #[.int .i64 1,.int .i64 AD,.int .i64 0,.int .u64 R],.pointer (some ⟨OP,0,none⟩)] wX (Dr OP wp.heap.size a2 (l2++[⟨1,AD,0,R⟩]) wX)):=fun wX hX=>Hb OP wp.heap.size c2 a2 l2 ⟨1,AD,0,R⟩ wX (by omega) (he.ops.below hX));have bz:=ht.block wo.heap.size N0 HNZ.out;have z0:wr.cell? ⟨wo.heap.size,0,none⟩=some (.int .i64 F):=(F2 bz).trans HZC.out.1;have z1:wr.cell? ⟨wo.heap.size,1,none⟩=some (.int .i64 lv):=(F2 bz).trans HZC.out.2.1;have z2:wr.cell? ⟨wo.heap.size,2,none⟩=some (.int .i64 pg):=(F2 bz).trans HZC.out.2.2;have pv:=he.pv;have HE:=A5 he;have HT:=A5 ht;have HN2:=A5 hn;clear he ht hn bz hX hAD hR hl2;(go_wp2_with fail);refine hent.mono ?_;rintro r w3 ⟨rfl,hb3⟩;have HB3:=A5 hb3;clear hent hb3;have hput:=HPUT.out (w3.alloc (.cells #[.int .i64 lv,.int .i64 X,.int .i64 AD,.int .u64 Z,.int .u64 R] 275)) (Ab HB3.out AO);(go_wp2_with fail);refine hput.mono ?_;rintro r w4 hp;obtain⟨rfl,hr2⟩:=CG.put HE.out HT.out HN2.out (Dr.pre (c:=c2) (l:=l2) (Ab HB3.out AO) hp);clear hput hp HPUT;(go_wp2_with fail);go_roundw;(case rel=>exact⟨i+1,by omega,by go_num,by rw[HL2.out];exact hr2⟩);case measure=>simp[intOf];omega
    ·(have ei:i=16:=by omega);subst ei;(go_wp2_with fail);go_roundw;(case rel=>exact⟨t+1,by omega,by go_num,by rw[HL.out];exact CG.trans (c1:=0) (l1:=ll) HTZ.out (fun k hk=>(HN.out k hk)) ⟨a2,c2,he,ht,hn⟩⟩);case measure=>simp[intOf];omega
  ·(have et:t=fs.length:=by omega);subst et;rw[List.take_length] at he;(go_wp2_with fail);refine bodyPost_end (v:=.tuple #[]) (by simp[results,results192,go_sem]) rfl ?_;exact CG.fin ⟨a1,c1,he,ht,hn⟩
def Ce:Dw (Nat×Nat):=⟨279,2,fun x=>[.int .i64 x.1,.int .i64 x.2],(0,0),by omega,fun _=>rfl⟩
theorem XQ:(prog.info? 279).map (fun i=>(i.zero,i.size,i.bytes))=some (some (.agg #[.int .i64 0,.int .i64 0]),2,16):=by kernel_rfl
theorem NP{w:World}{B g c n:Nat}{xs:List (Nat×Nat)}(h:A8 Ce w B (.slice (some ⟨g,0,none⟩) n c) xs):B<=g/\xs.length<=c/\c<=maxLen/\∃f,w.rowIs g 279 (c*2) f/\∀i,i<xs.length->f (i*2)=.int .i64 ((AQ Ce xs i).1:Nat)/\f (i*2+1)=.int .i64 ((AQ Ce xs i).2:Nat):=by
 rcases h.2 with⟨e,_⟩|⟨g',cap',cur,e,hb,hg,h1,h2,h3,h4⟩
 ·cases e
 ·simp only[Value.slice.injEq,Option.some.injEq,Addr.mk.injEq] at e;obtain⟨⟨rfl,_⟩,hn,rfl⟩:=e;have h3':cur.size=c*2:=h3;refine⟨hb,h1,h2,fun i=>cur.getD i (.bool false),⟨cur,hg,h3',fun i hi=>?_⟩,fun i hi=>?_⟩
  ·rw[Array.getElem?_eq_getElem (by rw[h3'];exact hi)];simp[Array.getD_eq_getD_getElem?,Array.getElem?_eq_getElem (show i<cur.size by rw[h3'];exact hi)]
  ·have key:∀j,j<2->cur.getD (i*2+j) (.bool false)=((Ce.enc (AQ Ce xs i))[j]?).getD (.bool false):=by
    intro j hj;have hu:=F4 Ce xs i hi j hj;have e0:i*Ce.sz+j=i*2+j:=rfl;(have e1:i*2+j<xs.length*Ce.sz:=by show i*2+j<xs.length*2;omega);rw[e0,<- h4,List.getElem?_take,if_pos e1,Array.getElem?_toList] at hu;simp[Array.getD_eq_getD_getElem?,hu]
   exact⟨key 0 (by decide),key 1 (by decide)⟩
theorem We{w:World}{B g c n:Nat}{f:Nat->Value}{ys:List (Nat×Nat)}(hn:n=ys.length)(hb:B<=g)(hr:w.rowIs g 279 (c*2) f)(hc:n<=c)(hm:c<=maxLen)(hf:∀i,i<n->f (i*2)=.int .i64 ((AQ Ce ys i).1:Nat)/\f (i*2+1)=.int .i64 ((AQ Ce ys i).2:Nat)):A8 Ce w B (.slice (some ⟨g,0,none⟩) n c) ys:=by
 refine A8.of_row (E:=Ce) (N:=c*2) hn.symm hb hr rfl hc hm (fun i hi j hj=>?_);have hj':j<2:=hj;have e0:i*Ce.sz+j=i*2+j:=rfl;rw[e0];rcases(show j=0\/j=1 by omega) with rfl|rfl
 ·exact(hf i hi).1
 ·exact(hf i hi).2
theorem Rx(rs:List (Nat×Nat))(x:Nat×Nat)(i:Nat):AQ Ce (rs++[x]) i=if i<rs.length then AQ Ce rs i else if i=rs.length then x else (0,0):=by
 unfold AQ;simp only[List.getD_eq_getElem?_getD];by_cases h:i<rs.length
 ·rw[if_pos h,List.getElem?_append_left h]
 ·rw[if_neg h,List.getElem?_append_right (by omega)];by_cases h2:i=rs.length
  ·rw[if_pos h2,h2,Nat.sub_self];rfl
  ·rw[if_neg h2,List.getElem?_eq_none (by simp;omega)];rfl
theorem Ux{w:World}{B g c:Nat}{rs:List (Nat×Nat)}{f k:Nat}(h:A8 Ce w B (.slice (some ⟨g,0,none⟩) (rs++[(f,k)]).length c) (rs++[(f,k)])):A8 Ce (w.setCell ⟨g,rs.length*2+1,none⟩ (.int .i64 ((k+1:Nat):Int))) B (.slice (some ⟨g,0,none⟩) (rs++[(f,k+1)]).length c) (rs++[(f,k+1)]):=by
 obtain⟨hB,hc,hm,ff,hr,hf⟩:=NP h;have hl:(rs++[(f,k+1)]).length=(rs++[(f,k)]).length:=by simp
 have hl2:(rs++[(f,k)]).length=rs.length+1:=by simp
 refine We rfl hB (hr.set (rs.length*2+1) _) (by omega) hm (fun i hi=>?_);obtain⟨a0,a1⟩:=hf i (by omega);rw[Rx] at a0 a1 ⊢;by_cases h1:i<rs.length
 ·rw[if_pos h1] at a0 a1 ⊢;rw[if_neg (by omega),if_neg (by omega)];exact⟨a0,a1⟩
 ·have h2:i=rs.length:=by omega
  rw[if_neg h1,if_pos h2] at a0 a1 ⊢;rw[if_neg (by omega),if_pos (by omega)];exact⟨a0,rfl⟩
theorem V7(rs:List (Nat×Nat))(f k n:Nat):CL (rs++[(f,k)]) n=if f+k=n then rs++[(f,k+1)] else (rs++[(f,k)])++[(n,1)]:=by
 unfold CL;simp
theorem W9(rs:List (Nat×Nat))(n:Nat):(CL rs n).length<=rs.length+1:=by
 unfold CL;split
 ·split
  ·rw[List.length_append,List.length_dropLast,List.length_singleton];omega
  ·simp
 ·simp
def Cj (ns:List Nat) (i:Nat):List (Nat×Nat):=(ns.take i).foldl CL []
theorem H9(ns:List Nat)(i:Nat)(hi:i<ns.length):Cj ns (i+1)=CL (Cj ns i) ns[i]:=by
 unfold Cj;rw[List.take_succ_eq_append_getElem hi,List.foldl_append];rfl
theorem LZ(ns:List Nat):∀i,i<=ns.length->(Cj ns i).length<=i
 | 0,_=>Nat.le_refl _
 | i+1,h=>by
  rw[H9 ns i (by omega)];have:=W9 (Cj ns i) ns[i];have:=LZ ns i (by omega);omega
theorem Ml(ns:List Nat)(b:Nat)(hb:∀x∈ns,x<b):∀i,i<=ns.length->∀r∈Cj ns i,r.1<b/\r.2<=i
 | 0,_,r,hr=>by cases hr
 | i+1,h,r,hr=>by
  rw[H9 ns i (by omega)] at hr;have ih:=Ml ns b hb i (by omega);have hx:=hb (ns[i]'(by omega)) (List.getElem_mem _);unfold CL at hr;split at hr
  ·rename_i q hq;have hqm:=List.mem_of_getLast? hq;split at hr
   ·rcases List.mem_append.1 hr with hr|hr
    ·have:=ih r ((List.dropLast_sublist _).subset hr);omega
    ·rw[List.mem_singleton] at hr;subst hr;have:=ih q hqm;dsimp only;omega
   ·rcases List.mem_append.1 hr with hr|hr
    ·have:=ih r hr;omega
    ·rw[List.mem_singleton] at hr;subst hr;dsimp only;omega
  ·rw[List.mem_singleton] at hr;subst hr;dsimp only;omega
theorem XY{rs:List (Nat×Nat)}(h:rs≠[]):∃r0 f k,rs=r0++[(f,k)]:=⟨rs.dropLast,(rs.getLast h).1,(rs.getLast h).2,(List.dropLast_concat_getLast h).symm⟩
theorem Qk(a:Option Addr)(c b:Nat)(ns:List Nat)(w:World)(hn:ns.length<=4096)(hlt:∀x∈ns,x<4096)(h:A8 Ae w b (.slice a (ns.map (fun k=>((k:Nat):Int))).length c) (ns.map (fun k=>((k:Nat):Int)))):Calls prog 190 #[.slice a ns.length c] w fun r w'=>∃a' c',r=.returned (.slice a' (ns.foldl CL []).length c')/\A8 Ce w' w.heap.size (.slice a' (ns.foldl CL []).length c') (ns.foldl CL [])/\Bl w w':=by
 obtain⟨iR,hiR,hzR0,hzR1,hzR2⟩:=info_parts XQ;have HC:Hid (∀(i:Nat) (hi:i<ns.length) wX,Bl w wX->∃g,a=some ⟨g,0,none⟩/\g<wX.heap.size/\wX.cell? ⟨g,i,none⟩=some (.int .i64 ((ns[i]:Nat):Int))):=fun i hi wX hX=>by
  have hr:=h.below hX;have hl:(ns.map (fun k=>((k:Nat):Int))).length=ns.length:=List.length_map _;obtain⟨g,rfl⟩:∃g,a=some ⟨g,0,none⟩:=by
   obtain⟨a',c',e,h1⟩:=hr.form;obtain⟨g,N,f,e2,_⟩:=h1 (by omega);simp only[Value.slice.injEq] at e;exact⟨g,by rw[e.1,e2]⟩
  obtain⟨h1,h2⟩:=Ch hr i (by omega);refine⟨g,rfl,h1,?_⟩;have e:AQ Ae (ns.map (fun k=>((k:Nat):Int))) i=((ns[i]:Nat):Int):=by
   unfold AQ;rw[List.getD_eq_getElem?_getD,List.getElem?_map,List.getElem?_eq_getElem hi];rfl
  rw[e] at h2;exact h2
 have HFIN:Hid (Cj ns ns.length=ns.foldl CL []):=A9 <| by unfold Cj;rw[List.take_length]
 have HBD:Hid (∀i,i<=ns.length->∀r∈Cj ns i,r.1<4096/\r.2<=i):=Ml ns 4096 hlt;have HLT:Hid (∀x∈ns,x<4096):=hlt;clear h hlt;go_enter func190,ntmps190
 go_wp2_with fail
 go_loopw [3,9] (fun v iv wr=>∃i:Nat,i<=ns.length/\iv=.int .i64 i/\(∃a' c',v=.slice a' (Cj ns i).length c'/\A8 Ce wr w.heap.size (.slice a' (Cj ns i).length c') (Cj ns i))/\Bl w wr) (fun _ iv _=>ns.length-(intOf iv).toNat)
 case atStart=>exact⟨0,Nat.zero_le _,rfl,⟨none,0,rfl,⟨by simp[AK,Cj],.inl ⟨rfl,rfl⟩⟩⟩,AH⟩
 case round =>
  obtain⟨i,hi,rfl,⟨a',c',rfl,hrow⟩,hb⟩:=hrel;by_cases hlt:i<ns.length
  ·obtain⟨g,rfl,hgl,x0⟩:=HC.out i hlt wr hb;have hN:=HLT.out (ns[i]) (List.getElem_mem _);have HS:Hid (Cj ns (i+1)=CL (Cj ns i) ns[i]):=H9 ns i hlt;generalize ns[i]=N at x0 hN HS;have hrl:=LZ ns i hi;have hbd:=HBD.out i hi;(obtain⟨rs,hrs⟩:∃rs,Cj ns i=rs:=⟨_,rfl⟩);rw[hrs] at hrow HS hrl hbd;(have L1:(0:Int)<=(i:Int):=by omega);(have L2:(i:Int)<(ns.length:Int):=by omega);have HB:Hid (Bl w wr):=hb;have hsz:=hb.size;rw[hrs];clear hb hrs;by_cases hnil:rs=[]
   ·subst hnil;have HR:Hid (Cj ns (i+1)=[]++[(N,1)]):=HS.out;have HROW:Hid (A8 Ce wr w.heap.size (.slice a' 0 c') []):=hrow;have HLN:Hid (([]:List (Nat×Nat)).length=0):=rfl;clear hrow HS hbd;(go_wp2_with fail);refine wp_region_held_drew (S:=fun _=>True) (by kernel_rfl) trivial (fun hHeld=>?_);refine tk 0 ?_;refine tk 1 ?_;refine tk 2 ?_;refine sk 3 ?_;refine sk 4 ?_;refine sk 5 ?_;refine sk 6 ?_;refine sk 7 ?_;refine sk 8 ?_;refine sk 9 ?_;refine sk 10 ?_;refine sk 11 ?_;refine sk 12 ?_;refine sk 13 ?_;refine sk 14 ?_;refine sk 15 ?_;refine tk 16 ?_;refine AZ ?_;clear hHeld;(have HNW:Hid (∀j u,[Value.int .i64 (N:Int),.int .i64 1][j]?=some u->(wr.alloc (.cells #[.int .i64 (N:Int),.int .i64 1] 279)).drew.cell? ((⟨wr.heap.size,0,none⟩:Addr).add j)=some u):=fun j u hu=>World.news_of_block (heap_alloc_new wr (.cells #[.int .i64 (N:Int),.int .i64 1] 279)) j u hu);have HOW:Hid (World.ownsRow (wr.alloc (.cells #[.int .i64 (N:Int),.int .i64 1] 279)).drew w.heap.size 279 2 (.slice a' 0 c') 0 (AK Ce [])):=A9 <| by
     have h9:=HROW.out.below (AO.drew (w:=wr.alloc (.cells #[.int .i64 (N:Int),.int .i64 1] 279)));unfold A8 at h9;rw[HLN.out] at h9;exact h9
    (go_wp2_with (at_builtin;refine wpList_append_lies _ rfl (.tmp 41) (.tmp 44) 251 rfl w.heap.size 279 iR _ 2 16 underlying251 hiR hzR0 hzR1 hzR2 rfl (by omega) (.slice a' 0 c') 0 (AK Ce []) rfl HOW.out ⟨wr.heap.size,0,none⟩ 1 1 [.int .i64 (N:Int),.int .i64 1] rfl rfl HNW.out ?c2 (by omega) ?c3 ?c4 ?c5 (wr.heap.size+1) ?c6 ?_));(case c2=>intro u hu;simp at hu;rcases hu with rfl|rfl<;>rfl);(case c3=>unfold maxLen;omega);(case c4=>omega);(case c5=>simp;omega);(case c6=>simp);intro g1 cap1 w2 hown hgrow hat hlt2;(have HL2:Hid (([]++[(N,1)]).length=0+1):=A9 <| by rw[List.length_append,HLN.out];rfl);have HN2:Hid (A8 Ce w2 w.heap.size (.slice (some ⟨g1,0,none⟩) ([]++[(N,1)]).length cap1) ([]++[(N,1)])):=A9 <| by
     unfold A8;rw[HL2.out,CC];exact hown
    have HB2:Hid (Bl w w2):=A9 <| by
     refine((BF.of_below (S:=fun k=>w.heap.size<=k) (HB.out.trans ((AO.drew (w:=wr.alloc (.cells #[.int .i64 (N:Int),.int .i64 1] 279))).mono hsz))).then (BF.of_grown (S:=fun k=>(Value.slice a' 0 c').ownBlock=some k) hgrow (fun k e=>e)) (fun k hk e=>?_)).below (fun k hk hh=>by omega);exact(HROW.out.own k e).1
    clear hown hgrow hat hlt2 HNW HOW;(go_wp2_with fail);go_roundw;(case rel=>exact⟨i+1,by omega,by go_num,⟨some ⟨g1,0,none⟩,cap1,by rw[HR.out,HL2.out],by rw[HR.out];exact HN2.out⟩,HB2.out⟩);case measure=>simp[intOf];omega
   ·obtain⟨r0,f,k,rfl⟩:=XY hnil;obtain⟨g2,rfl⟩:∃g2,a'=some ⟨g2,0,none⟩:=by
     obtain⟨a'',c'',e,h1⟩:=hrow.form;obtain⟨g,N',f',e2,_⟩:=h1 (by simp);simp only[Value.slice.injEq] at e;exact⟨g,by rw[e.1,e2]⟩
    obtain⟨hB,hcc,hmm,ff,hr,hf⟩:=NP hrow;have hbl:=hbd (f,k) (List.mem_append_right _ (List.mem_singleton.2 rfl));dsimp only at hbl;(have hm1:(r0++[(f,k)]).length=r0.length+1:=by simp);obtain⟨b0,b1⟩:=hf r0.length (by omega);rw[Rx,if_neg (by omega),if_pos rfl] at b0 b1;have y0:wr.cell? ⟨g2,r0.length*2,none⟩=some (.int .i64 (f:Nat)):=(hr.cell (by omega)).trans (congrArg some b0);have y1:wr.cell? ⟨g2,r0.length*2+1,none⟩=some (.int .i64 (k:Nat)):=(hr.cell (by omega)).trans (congrArg some b1);have f1:=hr.frozen (r0.length*2+1);have hg2:=hr.lt;(have HROW:Hid (A8 Ce wr w.heap.size (.slice (some ⟨g2,0,none⟩) (r0.length+1) c') (r0++[(f,k)])):=A9 <| by rw[<- hm1];exact hrow);have HMR:Hid (A8 Ce (wr.setCell ⟨g2,r0.length*2+1,none⟩ (.int .i64 ((k+1:Nat):Int))) w.heap.size (.slice (some ⟨g2,0,none⟩) (r0++[(f,k+1)]).length c') (r0++[(f,k+1)])):=Ux hrow;have HGB:Hid (w.heap.size<=g2):=hB;have hPL:=V7 r0 f k N;(obtain⟨m,hm⟩:∃m,r0.length=m:=⟨_,rfl⟩);rw[hm1,hm];rw[hm] at y0 y1 f1 HROW HMR hm1;have HLN:Hid ((r0++[(f,k)]).length=m+1):=hm1;(have W1:IntKind.i64.wrap ((m:Int)+1-1)=(m:Int):=by rw[IntKind.wrap_i64];omega);have W2:=AR ((f:Int)+(k:Int));(have L3:(0:Int)<=(m:Int):=by omega);(have L4:(m:Int)<(m:Int)+1:=by omega);clear hrow hf hr b0 b1 hbd hcc hmm hB hnil hm;by_cases hfk:f+k=N
    ·(have HR:Hid (Cj ns (i+1)=r0++[(f,k+1)]):=A9 <| by rw[HS.out,hPL,if_pos hfk]);(have dq:((f:Int)+(k:Int)==(N:Int))=true:=by simp;omega);clear HS hPL hfk;(go_wp2_with fail);refine wp_region_held_drew (S:=fun wX=>wX.cell? ⟨g2,m*2,none⟩=some (.int .i64 (f:Nat))/\wX.cell? ⟨g2,m*2+1,none⟩=some (.int .i64 (k:Nat))/\g2<wX.heap.size) (by kernel_rfl) ⟨y0,y1,hg2⟩ (fun hHeld=>?_);refine tk 0 ?_;refine tk 1 ?_;refine tk 2 ?_;refine tk 3 ?_;refine tk 4 ?_;refine tk 5 ?_;refine tk 6 ?_;refine tk 7 ?_;refine tk 8 ?_;refine tk 9 ?_;refine tk 10 ?_;refine tk 11 ?_;refine tk 12 ?_;refine tk 13 ?_;refine tk 14 ?_;refine tk 15 ?_;refine tk 16 ?_;refine AZ ?_;clear hHeld;(go_wp2_with fail);go_roundw;case rel =>
      have hl3:(r0++[(f,k+1)]).length=m+1:=by
       have:=HLN.out;rw[List.length_append] at this ⊢;exact this
      refine⟨i+1,by omega,by go_num,⟨some ⟨g2,0,none⟩,c',by rw[HR.out,hl3],?_⟩,(HB.out.setCell HGB.out _).drew⟩;rw[HR.out];exact HMR.out
     case measure=>simp[intOf];omega
    ·(have HR:Hid (Cj ns (i+1)=(r0++[(f,k)])++[(N,1)]):=A9 <| by rw[HS.out,hPL,if_neg hfk]);(have dq:((f:Int)+(k:Int)==(N:Int))=false:=by simp;omega);clear HS hPL hfk HMR;(go_wp2_with fail);refine wp_region_held_drew (S:=fun wX=>wX.cell? ⟨g2,m*2,none⟩=some (.int .i64 (f:Nat))/\wX.cell? ⟨g2,m*2+1,none⟩=some (.int .i64 (k:Nat))/\g2<wX.heap.size) (by kernel_rfl) ⟨y0,y1,hg2⟩ (fun hHeld=>?_);refine tk 0 ?_;refine tk 1 ?_;refine tk 2 ?_;refine tk 3 ?_;refine tk 4 ?_;refine tk 5 ?_;refine tk 6 ?_;refine tk 7 ?_;refine tk 8 ?_;refine tk 9 ?_;refine tk 10 ?_;refine tk 11 ?_;refine tk 12 ?_;refine tk 13 ?_;refine tk 14 ?_;refine tk 15 ?_;refine tk 16 ?_;refine AZ ?_;clear hHeld;(have HNW:Hid (∀j u,[Value.int .i64 (N:Int),.int .i64 1][j]?=some u->(wr.alloc (.cells #[.int .i64 (N:Int),.int .i64 1] 279)).drew.cell? ((⟨wr.heap.size,0,none⟩:Addr).add j)=some u):=fun j u hu=>World.news_of_block (heap_alloc_new wr (.cells #[.int .i64 (N:Int),.int .i64 1] 279)) j u hu);have HOW:Hid (World.ownsRow (wr.alloc (.cells #[.int .i64 (N:Int),.int .i64 1] 279)).drew w.heap.size 279 2 (.slice (some ⟨g2,0,none⟩) (m+1) c') (m+1) (AK Ce (r0++[(f,k)]))):=A9 <| by
      have h9:=HROW.out.below (AO.drew (w:=wr.alloc (.cells #[.int .i64 (N:Int),.int .i64 1] 279)));unfold A8 at h9;rw[HLN.out] at h9;exact h9
     (go_wp2_with (at_builtin;refine wpList_append_lies _ rfl (.tmp 41) (.tmp 44) 251 rfl w.heap.size 279 iR _ 2 16 underlying251 hiR hzR0 hzR1 hzR2 rfl (by omega) (.slice (some ⟨g2,0,none⟩) (m+1) c') (m+1) (AK Ce (r0++[(f,k)])) rfl HOW.out ⟨wr.heap.size,0,none⟩ 1 1 [.int .i64 (N:Int),.int .i64 1] rfl rfl HNW.out ?c2 (by omega) ?c3 ?c4 ?c5 (wr.heap.size+1) ?c6 ?_));(case c2=>intro u hu;simp at hu;rcases hu with rfl|rfl<;>rfl);(case c3=>unfold maxLen;omega);(case c4=>omega);(case c5=>simp;omega);(case c6=>simp);intro g1 cap1 w2 hown hgrow hat hlt2;(have HL2:Hid (((r0++[(f,k)])++[(N,1)]).length=(m+1)+1):=A9 <| by rw[List.length_append,HLN.out];rfl);have HN2:Hid (A8 Ce w2 w.heap.size (.slice (some ⟨g1,0,none⟩) ((r0++[(f,k)])++[(N,1)]).length cap1) ((r0++[(f,k)])++[(N,1)])):=A9 <| by
      unfold A8;rw[HL2.out,CC];exact hown
     have HB2:Hid (Bl w w2):=A9 <| by
      refine((BF.of_below (S:=fun k=>w.heap.size<=k) (HB.out.trans ((AO.drew (w:=wr.alloc (.cells #[.int .i64 (N:Int),.int .i64 1] 279))).mono hsz))).then (BF.of_grown (S:=fun k=>(Value.slice (some ⟨g2,0,none⟩) (m+1) c').ownBlock=some k) hgrow (fun k e=>e)) (fun k hk e=>?_)).below (fun k hk hh=>by omega);exact(HROW.out.own k e).1
     clear hown hgrow hat hlt2 HNW HOW;(go_wp2_with fail);go_roundw;(case rel=>exact⟨i+1,by omega,by go_num,⟨some ⟨g1,0,none⟩,cap1,by rw[HR.out,HL2.out],by rw[HR.out];exact HN2.out⟩,HB2.out⟩);case measure=>simp[intOf];omega
  ·(have ei:i=ns.length:=by omega);subst ei;rw[HFIN.out] at hrow ⊢;(go_wp2_with fail);go_ret;exact⟨a',c',rfl,hrow,hb⟩
end Go.Proofs.YtnmhkgmmpkjjeaaGreat
