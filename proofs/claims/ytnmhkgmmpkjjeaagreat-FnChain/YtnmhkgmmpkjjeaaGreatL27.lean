import Derived.Test.YtnmhkgmmpkjjeaaGreatL26
namespace Go.Proofs.YtnmhkgmmpkjjeaaGreat
open Go.ChangeShapes Go.WideShapes Go.ChangeAt Go.RowKit
set_option linter.unusedVariables false
set_option maxRecDepth 100000
attribute [local go_sem ↓] Go.wp_at_zero Go.wp_at_succ
structure FX (wp w:World) (gp OP PV:Nat) (a:Option Addr) (c:Nat) (l:List Ay):Prop where
 ops:Cv w OP wp.heap.size a c l
 pl:Below wp.heap.size wp w
 pv:w.cell? ⟨PV,0,none⟩=some (.pointer (some ⟨gp,0,none⟩))
 vlt:PV<w.heap.size
 vo:PV≠OP
 va:oB a≠some PV
 lo:wp.heap.size<=OP
theorem FX.below {wp w w':World} {gp OP PV c:Nat} {a:Option Addr} {l:List Ay} (h:FX wp w gp OP PV a c l) (hb:Below w.heap.size w w'):FX wp w' gp OP PV a c l :=
 ⟨h.ops.below hb,h.pl.trans (hb.mono h.pl.size),(hb.cell (p:=⟨PV,0,none⟩) h.vlt).trans h.pv,Nat.lt_of_lt_of_le h.vlt hb.size,h.vo,h.va,h.lo⟩
theorem FX.step {wp w w':World} {gp OP PV c c':Nat} {a a':Option Addr} {l l':List Ay} (h:FX wp w gp OP PV a c l) (ho:Cv w' OP wp.heap.size a' c' l') (ht:Aj (fun k=>k=OP\/oB a=some k) w w') (hn:∀k,oB a'=some k->oB a=some k\/w.heap.size<=k):FX wp w' gp OP PV a' c' l':=by
 have nv:¬(PV=OP\/oB a=some PV):=fun hh=>hh.elim h.vo h.va
 refine⟨ho,?_,(ht.cell (p:=⟨PV,0,none⟩) h.vlt nv).trans h.pv,Nat.lt_of_lt_of_le h.vlt ht.size,h.vo,?_,h.lo⟩
 ·refine((Aj.of_below (S:=fun k=>wp.heap.size<=k) h.pl).then ht (fun k hk hh=>?_)).below (fun k hk hh=>by omega);rcases hh with e|e
  ·have:=h.lo;omega
  ·have:=(h.ops.own k e).1;omega
 ·intro e;rcases hn _ e with e2|e2
  ·exact h.va e2
  ·have:=h.vlt;omega
def Mr (wp:World) (OP PB:Nat) (l:List Ay) (zs:List Int) (H:Nat->Ht) (all:List P3) (S:Nat->Prop) (es:List En) (w:World):Prop :=
 (∃a c,Cv w OP wp.heap.size a c (l++AR zs H all es)/\S=(fun k=>k=OP\/oB a=some k)/\oB a≠some PB)/\Below wp.heap.size wp w/\w.cell? ⟨PB,0,none⟩=some (FC OP)/\PB<w.heap.size
theorem Uu (wp:World) (OP PB:Nat) (l:List Ay) (zs:List Int) (H:Nat->Ht) (all:List P3) (hzr:∀i,0<=zs.getD i 0/\zs.getD i 0<18446744073709551616) (hl:l.length<=700000) (hlo:wp.heap.size<=OP) (hpo:PB≠OP):IW 186 PB zs H all wp (Mr wp OP PB l zs H all):=by
 refine⟨fun a b w=>?_,?_,?_,?_,?_⟩
 ·kernel_rfl
 ·rintro S es e wX ⟨⟨a,c,ho,rfl,hn⟩,hb,hc,hlt⟩ ⟨lv,pg,ad,rfl,h1,h3,h4,h5⟩ hes;have hlen:(l++AR zs H all es).length<=900000:=by
   rw[List.length_append];have:=Dh zs H all es;omega
  refine(P9 PB OP wp.heap.size c a (l++AR zs H all es) zs H all lv pg ad wX hlen (hzr _) hc hlt ho).mono ?_;rintro r w' ⟨rfl,a',c',h6,h7,h8⟩;have nv:¬(PB=OP\/oB a=some PB):=fun hh=>hh.elim hpo hn
  refine⟨rfl,fun k=>k=OP\/oB a'=some k,⟨⟨a',c',?_,rfl,?_⟩,?_,(h7.cell (p:=⟨PB,0,none⟩) hlt nv).trans hc,Nat.lt_of_lt_of_le hlt h7.size⟩,h7,?_⟩
  ·rw[Iz,<- List.append_assoc];exact h6
  ·intro e;rcases h8 _ e with e2|e2
   ·exact hn e2
   ·omega
  ·refine((Aj.of_below (S:=fun k=>wp.heap.size<=k) hb).then h7 (fun k hk hh=>?_)).below (fun k hk hh=>by omega);rcases hh with e|e
   ·omega
   ·have:=(ho.own k e).1;omega
  ·intro k hk hh;rcases hh with e|e
   ·exact .inl e
   ·rcases h8 _ e with e2|e2
    ·exact .inr e2
    ·omega
 ·rintro S es wX wY ⟨⟨a,c,ho,rfl,hn⟩,hb,hc,hlt⟩ hX;exact⟨⟨a,c,ho.below hX,rfl,hn⟩,hb.trans (hX.mono hb.size),(hX.cell (p:=⟨PB,0,none⟩) hlt).trans hc,Nat.lt_of_lt_of_le hlt hX.size⟩
 ·rintro S es wX ⟨_,hb,_⟩;exact hb
 ·rintro S es wX ⟨⟨a,c,ho,rfl,hn⟩,hb,hc,hlt⟩ k hk;rcases hk with e|e
  ·rw[e];exact ho.lt
  ·exact(ho.own k e).2
set_option maxHeartbeats 1000000 in
theorem TF (wp:World) (gp gz cz gl M OP PV c:Nat) (a:Option Addr) (l:List Ay) (zs:List Int) (H:Nat->Ht) (kept fs:List P3) (w:World) (hzr:∀i,0<=zs.getD i 0/\zs.getD i 0<18446744073709551616) (hl:l.length<=700000) (hP:IS wp gp gz cz gl M zs H (BG kept fs)) (hK:Ti zs H kept fs) (h:FX wp w gp OP PV a c l) : Calls Tryz.prog 184 #[FC OP,.pointer (some ⟨PV,0,none⟩)] w (DX OP wp.heap.size a (l++AR zs H (kept++fs) (BW kept 4096)) w):=by
 obtain⟨wb,hwb⟩:∃wb,wb=w.alloc (.cells #[FC OP] 230):=⟨_,rfl⟩
 have hb0:Below w.heap.size w wb:=by rw[hwb];exact Ao
 have h1:=h.below hb0;have hev:=Uu wp OP w.heap.size l zs H (kept++fs) hzr hl h.lo (by have:=h.ops.lt;omega);have hst:Mr wp OP w.heap.size l zs H (kept++fs) (fun k=>k=OP\/oB a=some k) [] wb:=by
  refine⟨⟨a,c,?_,rfl,fun e=>by have:=(h.ops.own _ e).2;omega⟩,h1.pl,?_,by rw[hwb];simp⟩
  ·have e0:AR zs H (kept++fs) []=[]:=rfl;rw[e0,List.append_nil];exact h1.ops
  ·rw[hwb];simp[go_sem]
 have hek:=Fg hev hP hK _ wb hst;have p1:=h.pv;have hvl:=h.vlt;have HE:Hid (∀r w',F7 (Mr wp OP w.heap.size l zs H (kept++fs)) (fun k=>k=OP\/oB a=some k) (BW kept 4096) wb r w'->DX OP wp.heap.size a (l++AR zs H (kept++fs) (BW kept 4096)) w r w'):=A3 <| by
  rintro r w' ⟨rfl,S',⟨⟨a',c',ho,rfl,hn⟩,hb,hc,hlt⟩,ht,hs⟩;refine⟨rfl,a',c',ho,(Aj.of_below hb0).then ht (fun k _ hh=>hh),fun k hk=>?_⟩;by_cases hkw:k<w.heap.size
  ·rcases hs k (by have:=hb0.size;omega) (.inr hk) with e|e
   ·exact absurd (by rw[hk,e]) ho.off
   ·exact .inl e
  ·exact .inr (by omega)
 have HWB:Hid (wb=_):=hwb;clear hwb hb0 h1 hev hst h hP hK;unfold FC at *;go_enter Tryz.func184,Tryz.ntmps184
 go_wp2_with fail
 rw[<- HWB.out];refine hek.mono ?_;rintro r w1 hv;obtain⟨rfl,hp⟩:=HE.out _ _ hv;clear hek hv;go_wp2_with fail
 refine bodyPost_end (v:=.tuple #[]) (by simp[results,Tryz.results184,go_sem]) rfl ?_;exact⟨rfl,hp⟩
def Mm (wp:World) (OP PB:Nat) (l:List Ay) (zs:List Int) (H:Nat->Ht) (all:List P3) (S:Nat->Prop) (es:List En) (w:World):Prop :=
 (∃a c,Cv w OP wp.heap.size a c (l++AZ zs H all es)/\S=(fun k=>k=OP\/oB a=some k)/\oB a≠some PB)/\Below wp.heap.size wp w/\w.cell? ⟨PB,0,none⟩=some (FC OP)/\PB<w.heap.size
theorem Uf (wp:World) (OP PB:Nat) (l:List Ay) (zs:List Int) (H:Nat->Ht) (all:List P3) (hzr:∀i,0<=zs.getD i 0/\zs.getD i 0<18446744073709551616) (hl:l.length<=700000) (hlo:wp.heap.size<=OP) (hpo:PB≠OP):IW 195 PB zs H all wp (Mm wp OP PB l zs H all):=by
 refine⟨fun a b w=>?_,?_,?_,?_,?_⟩
 ·kernel_rfl
 ·rintro S es e wX ⟨⟨a,c,ho,rfl,hn⟩,hb,hc,hlt⟩ ⟨lv,pg,ad,rfl,h1,h3,h4,h5⟩ hes;have hlen:(l++AZ zs H all es).length<=900000:=by
   rw[List.length_append];have:=Do zs H all es;omega
  refine(Pl PB OP wp.heap.size c a (l++AZ zs H all es) zs H all lv pg ad wX hlen (hzr _) hc hlt ho).mono ?_;rintro r w' ⟨rfl,a',c',h6,h7,h8⟩;have nv:¬(PB=OP\/oB a=some PB):=fun hh=>hh.elim hpo hn
  refine⟨rfl,fun k=>k=OP\/oB a'=some k,⟨⟨a',c',?_,rfl,?_⟩,?_,(h7.cell (p:=⟨PB,0,none⟩) hlt nv).trans hc,Nat.lt_of_lt_of_le hlt h7.size⟩,h7,?_⟩
  ·rw[J4,<- List.append_assoc];exact h6
  ·intro e;rcases h8 _ e with e2|e2
   ·exact hn e2
   ·omega
  ·refine((Aj.of_below (S:=fun k=>wp.heap.size<=k) hb).then h7 (fun k hk hh=>?_)).below (fun k hk hh=>by omega);rcases hh with e|e
   ·omega
   ·have:=(ho.own k e).1;omega
  ·intro k hk hh;rcases hh with e|e
   ·exact .inl e
   ·rcases h8 _ e with e2|e2
    ·exact .inr e2
    ·omega
 ·rintro S es wX wY ⟨⟨a,c,ho,rfl,hn⟩,hb,hc,hlt⟩ hX;exact⟨⟨a,c,ho.below hX,rfl,hn⟩,hb.trans (hX.mono hb.size),(hX.cell (p:=⟨PB,0,none⟩) hlt).trans hc,Nat.lt_of_lt_of_le hlt hX.size⟩
 ·rintro S es wX ⟨_,hb,_⟩;exact hb
 ·rintro S es wX ⟨⟨a,c,ho,rfl,hn⟩,hb,hc,hlt⟩ k hk;rcases hk with e|e
  ·rw[e];exact ho.lt
  ·exact(ho.own k e).2
set_option maxHeartbeats 1000000 in
theorem SW (wp:World) (gp gz cz gl M OP PV c:Nat) (a:Option Addr) (l:List Ay) (zs:List Int) (H:Nat->Ht) (kept fs:List P3) (w:World) (hzr:∀i,0<=zs.getD i 0/\zs.getD i 0<18446744073709551616) (hl:l.length<=700000) (hP:IS wp gp gz cz gl M zs H (BG kept fs)) (hK:Ti zs H kept fs) (h:FX wp w gp OP PV a c l) : Calls Tryz.prog 194 #[FC OP,.pointer (some ⟨PV,0,none⟩)] w (DX OP wp.heap.size a (l++AZ zs H (kept++fs) (BW kept 4096)) w):=by
 obtain⟨wb,hwb⟩:∃wb,wb=w.alloc (.cells #[FC OP] 230):=⟨_,rfl⟩
 have hb0:Below w.heap.size w wb:=by rw[hwb];exact Ao
 have h1:=h.below hb0;have hev:=Uf wp OP w.heap.size l zs H (kept++fs) hzr hl h.lo (by have:=h.ops.lt;omega);have hst:Mm wp OP w.heap.size l zs H (kept++fs) (fun k=>k=OP\/oB a=some k) [] wb:=by
  refine⟨⟨a,c,?_,rfl,fun e=>by have:=(h.ops.own _ e).2;omega⟩,h1.pl,?_,by rw[hwb];simp⟩
  ·have e0:AZ zs H (kept++fs) []=[]:=rfl;rw[e0,List.append_nil];exact h1.ops
  ·rw[hwb];simp[go_sem]
 have hek:=Fg hev hP hK _ wb hst;have p1:=h.pv;have hvl:=h.vlt;have HE:Hid (∀r w',F7 (Mm wp OP w.heap.size l zs H (kept++fs)) (fun k=>k=OP\/oB a=some k) (BW kept 4096) wb r w'->DX OP wp.heap.size a (l++AZ zs H (kept++fs) (BW kept 4096)) w r w'):=A3 <| by
  rintro r w' ⟨rfl,S',⟨⟨a',c',ho,rfl,hn⟩,hb,hc,hlt⟩,ht,hs⟩;refine⟨rfl,a',c',ho,(Aj.of_below hb0).then ht (fun k _ hh=>hh),fun k hk=>?_⟩;by_cases hkw:k<w.heap.size
  ·rcases hs k (by have:=hb0.size;omega) (.inr hk) with e|e
   ·exact absurd (by rw[hk,e]) ho.off
   ·exact .inl e
  ·exact .inr (by omega)
 have HWB:Hid (wb=_):=hwb;clear hwb hb0 h1 hev hst h hP hK;unfold FC at *;go_enter Tryz.func194,Tryz.ntmps194
 go_wp2_with fail
 rw[<- HWB.out];refine hek.mono ?_;rintro r w1 hv;obtain⟨rfl,hp⟩:=HE.out _ _ hv;clear hek hv;go_wp2_with fail
 refine bodyPost_end (v:=.tuple #[]) (by simp[results,Tryz.results194,go_sem]) rfl ?_;exact⟨rfl,hp⟩
def Bi (wp w w':World) (gp OP PV:Nat) (a:Option Addr) (l':List Ay):Prop:=∃a' c',FX wp w' gp OP PV a' c' l'/\Aj (fun k=>k=OP\/oB a=some k) w w'/\(∀k,oB a'=some k->oB a=some k\/w.heap.size<=k)
theorem Bi.start {wp w w':World} {gp OP PV c:Nat} {a:Option Addr} {l:List Ay} (h:FX wp w gp OP PV a c l) (hb:Below w.heap.size w w'):Bi wp w w' gp OP PV a l:=⟨a,c,h.below hb,Aj.of_below hb,fun k hk=>.inl hk⟩
theorem Bi.put {wp w w1 w2:World} {gp OP PV c1:Nat} {a a1:Option Addr} {l1 l2:List Ay} {r:Ending} (h:FX wp w1 gp OP PV a1 c1 l1) (ht:Aj (fun k=>k=OP\/oB a=some k) w w1) (hn:∀k,oB a1=some k->oB a=some k\/w.heap.size<=k) (hp:DX OP wp.heap.size a1 l2 w1 r w2):r=.returned (.tuple #[])/\Bi wp w w2 gp OP PV a l2:=by
 obtain⟨e,a2,c2,h1,h2,h3⟩:=hp;refine⟨e,a2,c2,h.step h1 h2 h3,ht.then h2 (fun k hk hh=>?_),fun k hk=>?_⟩
 ·rcases hh with e|e
  ·exact .inl e
  ·rcases hn k e with e2|e2
   ·exact .inr e2
   ·omega
 ·rcases h3 k hk with e|e
  ·exact hn k e
  ·exact .inr (Nat.le_trans ht.size e)
theorem Bi.trans {wp w w1 w2:World} {gp OP PV c1:Nat} {a a1:Option Addr} {l1 l2:List Ay} (ht:Aj (fun k=>k=OP\/oB a=some k) w w1) (hn:∀k,oB a1=some k->oB a=some k\/w.heap.size<=k) (hp:Bi wp w1 w2 gp OP PV a1 l2):Bi wp w w2 gp OP PV a l2:=by
 obtain⟨a2,c2,h1,h2,h3⟩:=hp;refine⟨a2,c2,h1,ht.then h2 (fun k hk hh=>?_),fun k hk=>?_⟩
 ·rcases hh with e|e
  ·exact .inl e
  ·rcases hn k e with e2|e2
   ·exact .inr e2
   ·omega
 ·rcases h3 k hk with e|e
  ·exact hn k e
  ·exact .inr (Nat.le_trans ht.size e)
theorem Bi.fin {wp w w':World} {gp OP PV:Nat} {a:Option Addr} {l':List Ay} (h:Bi wp w w' gp OP PV a l'):DX OP wp.heap.size a l' w (.returned (.tuple #[])) w':=by
 obtain⟨a',c',h1,h2,h3⟩:=h;exact⟨rfl,a',c',h1.ops,h2,h3⟩
def S9 (x:Int):Ay:=⟨4,x,0,0⟩
theorem Nl (gone:List P3) (n:Nat):Ah n gone=(DR gone n).map S9:=by
 unfold Ah DR BX;rw[List.map_map];rfl
theorem Kt (xs:List Int) (i:Nat) (hi:i<xs.length):(xs.take (i+1)).map S9=(xs.take i).map S9++[S9 (AI Ai xs i)]:=by
 rw[DD Ai xs i hi,List.map_append];rfl
set_option maxHeartbeats 2000000 in
theorem RP (wp:World) (gp OP PV c cR bR:Nat) (a aR:Option Addr) (l:List Ay) (rt:List Int) (w:World) (hl:l.length<=700000) (hrl:rt.length<=1000) (hg:gp<wp.heap.size) (c4:wp.cell? ⟨gp,4,none⟩=some (.slice aR rt.length cR)) (hr:A6 Ai wp bR (.slice aR rt.length cR) rt) (h:FX wp w gp OP PV a c l) : Calls Tryz.prog 191 #[FC OP,.pointer (some ⟨PV,0,none⟩)] w (DX OP wp.heap.size a (l++rt.map S9) w):=by
 have p1:=h.pv;have hvl:=h.vlt;have HG:Hid (∀wX,Below wp.heap.size wp wX->wX.cell? ⟨gp,4,none⟩=some (.slice aR rt.length cR)/\A6 Ai wX bR (.slice aR rt.length cR) rt):=fun wX hX=>⟨(hX.cell (p:=⟨gp,4,none⟩) hg).trans c4,hr.below hX⟩
 have g4:=(HG.out w h.pl).1;have hgw:gp<w.heap.size:=Nat.lt_of_lt_of_le hg h.pl.size;have HST:Hid (Bi wp w w gp OP PV a (l++(rt.take 0).map S9)):=A3 <| by
  rw[List.take_zero,List.map_nil,List.append_nil];exact Bi.start h (Below.refl _ _)
 clear h c4 hr;unfold FC;go_enter Tryz.func191,Tryz.ntmps191
 go_wp2_with fail
 go_loopw [11] (fun iv wr=>∃i:Nat,i<=rt.length/\iv=.int .i64 i/\Bi wp w wr gp OP PV a (l++(rt.take i).map S9)) (fun iv _=>rt.length-(intOf iv).toNat)
 case atStart=>exact⟨0,Nat.zero_le _,rfl,HST.out⟩
 case round =>
  obtain⟨i,hi,rfl,a1,c1,he,ht,hn⟩:=hrel;by_cases hlt:i<rt.length
  ·have hrw:=(HG.out wr he.pl).2;obtain⟨g,rfl⟩:∃g,aR=some ⟨g,0,none⟩:=by
    obtain⟨a',c',e,h1⟩:=hrw.form;obtain⟨g,N,f,e2,_⟩:=h1 (by omega);simp only[Value.slice.injEq] at e;exact⟨g,by rw[e.1,e2]⟩
   obtain⟨hgl,x0⟩:=Fn hrw i hlt;(obtain⟨X,hX⟩:∃X,AI Ai rt i=X:=⟨_,rfl⟩);rw[hX] at x0;(have HL:Hid (l++(rt.take (i+1)).map S9=(l++(rt.take i).map S9)++[⟨4,X,0,0⟩]):=A3 <| by rw[Kt rt i hlt,hX,List.append_assoc];rfl);have hput:=GS OP wp.heap.size c1 a1 (l++(rt.take i).map S9) ⟨4,X,0,0⟩ wr (by rw[List.length_append,List.length_map,List.length_take];omega) he.ops;(have L1:(0:Int)<=(i:Int):=by omega);(have L2:(i:Int)<(rt.length:Int):=by omega);have HE:Hid _:=he;have HT:Hid _:=ht;have HN:Hid (∀k,oB a1=some k->oB a=some k\/w.heap.size<=k):=hn;clear he ht hn hrw hX;dsimp only at hput;(go_wp2_with fail);refine hput.mono ?_;rintro r w2 hp;obtain⟨rfl,hr2⟩:=Bi.put HE.out HT.out HN.out hp;clear hput hp;(go_wp2_with fail);go_roundw;(case rel=>exact⟨i+1,by omega,by go_num,by rw[HL.out];exact hr2⟩);case measure=>simp[intOf];omega
  ·(have ei:i=rt.length:=by omega);subst ei;rw[List.take_length] at he;(go_wp2_with fail);refine bodyPost_end (v:=.tuple #[]) (by simp[results,Tryz.results191,go_sem]) rfl ?_;exact Bi.fin ⟨a1,c1,he,ht,hn⟩
set_option maxHeartbeats 4000000 in
theorem Rs (wp:World) (gp gz cz gl M OP PV c cC bC:Nat) (a aC:Option Addr) (l:List Ay) (zs:List Int) (H:Nat->Ht) (kept fs:List P3) (w:World) (hzl:zs.length<=1048576) (hl:l.length<=700000) (hfl:fs.length<=1000) (hP:IS wp gp gz cz gl M zs H (BG kept fs)) (hO:Sm zs H kept fs) (hF:∀q∈fs,∃F lv pg:Nat,q=⟨F,lv,pg⟩/\1<=lv/\lv<=3/\pg+Hj lv<=4096/\F*16+16<=zs.length) (c3:wp.cell? ⟨gp,3,none⟩=some (.slice aC fs.length cC)) (hr:A6 FA wp bC (.slice aC fs.length cC) fs) (h:FX wp w gp OP PV a c l) : Calls Tryz.prog 192 #[FC OP,.pointer (some ⟨PV,0,none⟩)] w (DX OP wp.heap.size a (l++AK H (kept++fs) fs) w):=by
 have p1:=h.pv;have hvl:=h.vlt;have hg:=hP.lt;have HG:Hid (∀wX,Below wp.heap.size wp wX->wX.cell? ⟨gp,3,none⟩=some (.slice aC fs.length cC)/\A6 FA wX bC (.slice aC fs.length cC) fs):=fun wX hX=>⟨(hX.cell (p:=⟨gp,3,none⟩) hg).trans c3,hr.below hX⟩
 have g3:=(HG.out w h.pl).1;have hgw:gp<w.heap.size:=Nat.lt_of_lt_of_le hg h.pl.size;have HST:Hid (Bi wp w w gp OP PV a (l++AK H (kept++fs) (fs.take 0))):=A3 <| by
  have e0:AK H (kept++fs) (fs.take 0)=[]:=rfl;rw[e0,List.append_nil];exact Bi.start h (Below.refl _ _)
 have HF:Hid (∀q∈fs,∃F lv pg:Nat,q=⟨F,lv,pg⟩/\1<=lv/\lv<=3/\pg+Hj lv<=4096/\F*16+16<=zs.length):=hF;have HPS:Hid (∀wX,Below wp.heap.size wp wX->IS wX gp gz cz gl M zs H (BG kept fs)):=fun wX hX=>hP.below hX
 have HO:Hid (Sm zs H kept fs):=hO;clear h c3 hr hP hO hF;unfold FC;go_enter Tryz.func192,Tryz.ntmps192
 go_wp2_with fail
 go_loopw [12] (fun iv wr=>∃t:Nat,t<=fs.length/\iv=.int .i64 t/\Bi wp w wr gp OP PV a (l++AK H (kept++fs) (fs.take t))) (fun iv _=>fs.length-(intOf iv).toNat)
 case atStart=>exact⟨0,Nat.zero_le _,rfl,HST.out⟩
 case round =>
  obtain⟨wo,hwo⟩:∃wo:World,wo=wr:=⟨_,rfl⟩
  subst hwo;obtain⟨t,ht0,rfl,a1,c1,he,ht,hn⟩:=hrel;by_cases hlt:t<fs.length
  ·obtain⟨F,lv,pg,hE,l1,l3,lp,lF⟩:=HF.out _ (Gb hlt);have hrw:=(HG.out wo he.pl).2;obtain⟨g,rfl⟩:∃g,aC=some ⟨g,0,none⟩:=by
    obtain⟨a',c',e,h1⟩:=hrw.form;obtain⟨g,N,f,e2,_⟩:=h1 (by omega);simp only[Value.slice.injEq] at e;exact⟨g,by rw[e.1,e2]⟩
   obtain⟨hgl,x0,x1,x2⟩:=GZ hrw t hlt;rw[hE] at x0 x1 x2;dsimp only at x0 x1 x2;(obtain⟨ll,hll⟩:∃ll,l++AK H (kept++fs) (fs.take t)=ll:=⟨_,rfl⟩);have hlen:ll.length<=720000:=by
    rw[<- hll,List.length_append,DJ,List.length_take];omega
   rw[hll] at he;(have HL:Hid (l++AK H (kept++fs) (fs.take (t+1))=ll++Al H (kept++fs) ⟨F,lv,pg⟩ 16):=A3 <| by rw[JK H (kept++fs) fs t hlt,hE,<- List.append_assoc,hll]);(obtain⟨wz,hwz⟩:∃wz,wz=wo.alloc (.cells #[.int .i64 F,.int .i64 lv,.int .i64 pg] 67):=⟨_,rfl⟩);(have hbz:Below wo.heap.size wo wz:=by rw[hwz];exact Ao);(have z0:wz.cell? ⟨wo.heap.size,0,none⟩=some (.int .i64 F):=by rw[hwz];simp[go_sem]);(have z1:wz.cell? ⟨wo.heap.size,1,none⟩=some (.int .i64 lv):=by rw[hwz];simp[go_sem]);(have z2:wz.cell? ⟨wo.heap.size,2,none⟩=some (.int .i64 pg):=by rw[hwz];simp[go_sem]);(have N0:wo.heap.size<wz.heap.size:=by rw[hwz];simp);have hez:=he.below hbz;have HNZ:Hid (¬(wo.heap.size=OP\/oB a1=some wo.heap.size)):=A3 <| fun hh=>by
    rcases hh with e|e
    ·have:=he.ops.lt;omega
    ·have:=(he.ops.own _ e).2;omega
   have HSZ:Hid (Bi wp wz wz gp OP PV a1 (ll++Al H (kept++fs) ⟨F,lv,pg⟩ 0)):=A3 <| by
    have e0:Al H (kept++fs) ⟨F,lv,pg⟩ 0=[]:=rfl;rw[e0,List.append_nil];exact Bi.start hez (Below.refl _ _)
   have HTZ:Hid (Aj (fun k=>k=OP\/oB a=some k) w wz):=ht.then (Aj.of_below (S:=fun _=>False) hbz) (fun k _ h=>h.elim);have HZC:Hid (wz.cell? ⟨wo.heap.size,0,none⟩=some (.int .i64 F)/\wz.cell? ⟨wo.heap.size,1,none⟩=some (.int .i64 lv)/\wz.cell? ⟨wo.heap.size,2,none⟩=some (.int .i64 pg)):=⟨z0,z1,z2⟩;(have L1:(0:Int)<=(t:Int):=by omega);(have L2:(t:Int)<(fs.length:Int):=by omega);have HN:Hid (∀k,oB a1=some k->oB a=some k\/w.heap.size<=k):=hn;have HWZ:Hid (wz=_):=hwz;clear he ht hn hrw hll hwz hbz z0 z1 z2 hez;(go_wp2_with fail);rw[<- HWZ.out];(go_loopw [16] (fun iv wr2=>∃i:Nat,i<=16/\iv=.int .i64 i/\Bi wp wz wr2 gp OP PV a1 (ll++Al H (kept++fs) ⟨F,lv,pg⟩ i)) (fun iv _=>16-(intOf iv).toNat));(case atStart=>exact⟨0,Nat.zero_le _,rfl,HSZ.out⟩);case round =>
    obtain⟨i,hi,rfl,a2,c2,he,ht,hn⟩:=hrel;by_cases hlti:i<16
    ·have hent:=J8 gp gz cz gl M zs H kept fs F lv pg i wr hzl l1 l3 hlti lp lF HO.out (HPS.out wr he.pl);(obtain⟨X,hX⟩:∃X,pg+i*Aq lv=X:=⟨_,rfl⟩);(obtain⟨AD,hAD⟩:∃AD,F*16+i=AD:=⟨_,rfl⟩);rw[hX,hAD] at hent;unfold Fw at hent;(obtain⟨R,hR⟩:∃R,Bv H (kept++fs) lv X=R:=⟨_,rfl⟩);rw[hR] at hent;generalize IV zs AD=Z at hent;(obtain⟨l2,hl2⟩:∃l2,ll++Al H (kept++fs) ⟨F,lv,pg⟩ i=l2:=⟨_,rfl⟩);have HL2:Hid (ll++Al H (kept++fs) ⟨F,lv,pg⟩ (i+1)=l2++[⟨1,AD,0,R⟩]):=A3 <| by
      (have e1:(pg:Int)+(i:Int)*Bj (lv:Int)=(X:Int):=by rw[CT lv,<- hX];simp);(have e2:(F:Int)*16+(i:Int)=(AD:Int):=by rw[<- hAD];simp);rw[Hv,<- List.append_assoc,hl2];dsimp only;rw[e1,e2,hR]
     (have hlen2:l2.length<=800000:=by rw[<- hl2,List.length_append,GH];omega);rw[hl2] at he;(have HPUT:Hid (∀wX,Below wr.heap.size wr wX->Calls Tryz.prog 146 #[.agg #[.int .i64 1,.int .i64 AD,.int .i64 0,.int .u64 R],.pointer (some ⟨OP,0,none⟩)] wX (DX OP wp.heap.size a2 (l2++[⟨1,AD,0,R⟩]) wX)):=fun wX hX=>GS OP wp.heap.size c2 a2 l2 ⟨1,AD,0,R⟩ wX (by omega) (he.ops.below hX));have bz:=ht.block wo.heap.size N0 HNZ.out;have z0:wr.cell? ⟨wo.heap.size,0,none⟩=some (.int .i64 F):=(Eg bz).trans HZC.out.1;have z1:wr.cell? ⟨wo.heap.size,1,none⟩=some (.int .i64 lv):=(Eg bz).trans HZC.out.2.1;have z2:wr.cell? ⟨wo.heap.size,2,none⟩=some (.int .i64 pg):=(Eg bz).trans HZC.out.2.2;have pv:=he.pv;have HE:Hid _:=he;have HT:Hid _:=ht;have HN2:Hid (∀k,oB a2=some k->oB a1=some k\/wz.heap.size<=k):=hn;clear he ht hn bz hX hAD hR hl2;(go_wp2_with fail);refine hent.mono ?_;rintro r w3 ⟨rfl,hb3⟩;have HB3:Hid (Below wr.heap.size wr w3):=hb3;clear hent hb3;have hput:=HPUT.out (w3.alloc (.cells #[.int .i64 lv,.int .i64 X,.int .i64 AD,.int .u64 Z,.int .u64 R] 275)) (HB3.out.trans (Ao.mono HB3.out.size));(go_wp2_with fail);refine hput.mono ?_;rintro r w4 hp;obtain⟨rfl,hr2⟩:=Bi.put HE.out HT.out HN2.out (DX.pre (c:=c2) (l:=l2) (HB3.out.trans (Ao.mono HB3.out.size)) hp);clear hput hp HPUT;(go_wp2_with fail);go_roundw;(case rel=>exact⟨i+1,by omega,by go_num,by rw[HL2.out];exact hr2⟩);case measure=>simp[intOf];omega
    ·(have ei:i=16:=by omega);subst ei;(go_wp2_with fail);go_roundw;(case rel=>exact⟨t+1,by omega,by go_num,by rw[HL.out];exact Bi.trans (c1:=0) (l1:=ll) HTZ.out (fun k hk=>(HN.out k hk)) ⟨a2,c2,he,ht,hn⟩⟩);case measure=>simp[intOf];omega
  ·(have et:t=fs.length:=by omega);subst et;rw[List.take_length] at he;(go_wp2_with fail);refine bodyPost_end (v:=.tuple #[]) (by simp[results,Tryz.results192,go_sem]) rfl ?_;exact Bi.fin ⟨a1,c1,he,ht,hn⟩
end Go.Proofs.YtnmhkgmmpkjjeaaGreat
