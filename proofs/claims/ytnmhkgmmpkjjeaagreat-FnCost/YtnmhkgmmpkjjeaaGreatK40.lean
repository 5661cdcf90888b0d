import Derived.Test.YtnmhkgmmpkjjeaaGreatK39
import Derived.Laws.EntriesVeiled
namespace Go.Proofs.YtnmhkgmmpkjjeaaGreat
open Go.ChangeShapes Go.WideShapes Go.ChangeAt Go.RowKit
set_option linter.unusedVariables false
set_option maxRecDepth 100000
attribute [local go_sem ↓] Go.wp_at_zero Go.wp_at_succ
def Ph (wp:World) (G B:Nat) (zs:List Int) (H:Nat->Ht) (all:List P3) (S:Nat->Prop) (es:List En) (w:World):Prop :=
 (∃a c,BI w G 0 B a c (Bf (Ez zs H all es) 4096)/\S=(fun k=>k=G\/oB a=some k))/\Below wp.heap.size wp w
theorem Xl (wp:World) (G B:Nat) (zs:List Int) (H:Nat->Ht) (all:List P3) (hzr:∀i,0<=zs.getD i 0/\zs.getD i 0<18446744073709551616) (hlo:wp.heap.size<=G) (hB:wp.heap.size<=B):It 189 G zs H all wp (Ph wp G B zs H all):=by
 refine⟨fun a b w=>?_,?_,?_,?_,?_⟩
 ·kernel_rfl
 ·rintro S es e wX ⟨⟨a,c,ho,rfl⟩,hb⟩ ⟨lv,pg,ad,rfl,h1,h3,h4,h5⟩ hes;refine(Q0 G B c a (Ez zs H all es) (Ez zs H all (es++[⟨lv,pg,ad⟩])) zs H all lv pg ad wX h1 h3 h4 (hzr _) (fun q=>?_) ho).mono ?_
  ·rw[O9];congr 2;dsimp only;rw[Ci lv];by_cases hh:pg<=q/\q<pg+Ao lv
   ·rw[decide_eq_true hh,decide_eq_true (by omega)]
   ·rw[decide_eq_false hh,decide_eq_false (by omega)]
  rintro r w' ⟨rfl,a',c',h6,h7,h8⟩;refine⟨rfl,fun k=>k=G\/oB a'=some k,⟨⟨a',c',h6,rfl⟩,?_⟩,h7,?_⟩
  ·refine((BJ.of_below (S:=fun k=>wp.heap.size<=k) hb).then h7 (fun k hk hh=>?_)).below (fun k hk hh=>by omega);rcases hh with e|e
   ·omega
   ·have:=(ho.row.own k (by rw[CS];exact e)).1;omega
  ·intro k hk hh;rcases hh with e|e
   ·exact .inl e
   ·rcases h8 with e2|⟨j,e2,hj⟩
    ·exact .inr (by rw[<- e2];exact e)
    ·rw[e] at e2;simp only[Option.some.injEq] at e2;omega
 ·rintro S es wX wY ⟨⟨a,c,ho,rfl⟩,hb⟩ hX;exact⟨⟨a,c,ho.tch (BJ.of_below (S:=fun _=>False) hX) (fun f=>f) (fun _ _ f=>f),rfl⟩,hb.trans (hX.mono hb.size)⟩
 ·rintro S es wX ⟨_,hb⟩;exact hb
 ·rintro S es wX ⟨⟨a,c,ho,rfl⟩,hb⟩ k hk;rcases hk with e|e
  ·rw[e];exact ho.lt
  ·exact(ho.row.own k (by rw[CS];exact e)).2
def VB (r:Nat×Nat):BP:=⟨3,r.1,r.2,0⟩
theorem WW (mk:Nat->Bool):BB mk=(Bs mk 4096 4096).map VB:=rfl
theorem SU {w:World} {b g c n:Nat} {xs:List (Nat×Nat)} (h:A6 CX w b (.slice (some ⟨g,0,none⟩) n c) xs) (i:Nat) (hi:i<xs.length):g<w.heap.size/\w.cell? ⟨g,i*2,none⟩=some (.int .i64 ((AI CX xs i).1:Nat))/\w.cell? ⟨g,i*2+1,none⟩=some (.int .i64 ((AI CX xs i).2:Nat)):=by
 obtain⟨hB,hc,hm,f,hr,hf⟩:=NR h;obtain⟨a0,a1⟩:=hf i hi;exact⟨hr.lt,by rw[hr.cell (i:=i*2) (by omega),a0],by rw[hr.cell (i:=i*2+1) (by omega),a1]⟩
theorem Pl (xs:List (Nat×Nat)) (i:Nat) (hi:i<xs.length):(xs.take (i+1)).map VB=(xs.take i).map VB++[VB (AI CX xs i)]:=by
 rw[CV CX xs i hi,List.map_append];rfl
theorem MZ (mk:Nat->Bool) (n:Nat):(Bs mk n n).length<=n:=by
 have h:∀k,(Bs mk n k).length<=k:=by
  intro k;induction k with
  | zero=>exact Nat.zero_le _
  | succ k ih =>
   rw[Fl,List.length_append];split
   ·simp;omega
   ·simp;omega
 exact h n
theorem V8 (zs:List Int) (H:Nat->Ht) (all:List P3):Bf (Ez zs H all []) 4096=[]:=by
 unfold Bf;have:(List.range 4096).filter (Ez zs H all [])=[]:=by
  rw[List.filter_eq_nil_iff];intro a _ h;cases h
 rw[this];rfl
set_option maxHeartbeats 4000000 in
theorem Uo (wp:World) (gp gz cz gl M OP PV c:Nat) (a:Option Addr) (l:List BP) (zs:List Int) (H:Nat->Ht) (kept fs:List P3) (w:World) (hzr:∀i,0<=zs.getD i 0/\zs.getD i 0<18446744073709551616) (hl:l.length<=700000) (hP:Iu wp gp gz cz gl M zs H (BF kept fs)) (hK:U4 zs H kept fs) (h:Fk wp w gp OP PV a c l) : Calls Tryz.prog 188 #[FG OP,.pointer (some ⟨PV,0,none⟩)] w (Db OP wp.heap.size a (l++BB (Ez zs H (kept++fs) (Bc kept 4096))) w):=by
 obtain⟨wb,hwb⟩:∃wb,wb=w.alloc (.cells #[.slice none 0 0] 160):=⟨_,rfl⟩
 have hb0:Below w.heap.size w wb:=by rw[hwb];exact Ax
 have hwl:wp.heap.size<=w.heap.size:=h.pl.size;have hev:=Xl wp w.heap.size (w.heap.size+1) zs H (kept++fs) hzr hwl (by omega);have hset:BI wb w.heap.size 0 (w.heap.size+1) none 0 []:=by
  rw[hwb];exact⟨by simp,by simp[go_sem],by simp[go_sem],⟨by simp[AK],.inl ⟨rfl,rfl⟩⟩,by simp[oB,Value.ownBlock],by simp⟩
 have hst:Ph wp w.heap.size (w.heap.size+1) zs H (kept++fs) (fun k=>k=w.heap.size\/oB none=some k) [] wb:=by
  refine⟨⟨none,0,?_,rfl⟩,(h.below hb0).pl⟩;rw[V8];exact hset
 have hek:=Fm hev hP hK _ wb hst;have p1:=h.pv;have hvl:=h.vlt;obtain⟨mk,hmk⟩:∃mk,Ez zs H (kept++fs) (Bc kept 4096)=mk:=⟨_,rfl⟩
 obtain⟨ns,hns⟩:∃ns,(List.range 4096).filter mk=ns:=⟨_,rfl⟩
 have hn1:ns.length<=4096:=by
  rw[<- hns];exact Nat.le_trans (List.length_filter_le _ _) (by rw[List.length_range];omega)
 have hn2:∀x∈ns,x<4096:=fun x hx=>by
  rw[<- hns] at hx;exact List.mem_range.1 (List.mem_filter.1 hx).1
 have hrq:ns.foldl C4 []=Bs mk 4096 4096:=by rw[<- hns];exact Qy mk 4096
 have HNM:Hid (Bf mk 4096=ns.map (fun k=>((k:Nat):Int))):=A5 <| by rw[<- hns];rfl
 have hrl:(ns.foldl C4 []).length<=4096:=by rw[hrq];exact MZ mk 4096
 have HLQ:Hid (l++BB mk=l++(ns.foldl C4 []).map VB):=A5 <| by rw[hrq];rfl
 have HE:Hid (∀r w',F8 (Ph wp w.heap.size (w.heap.size+1) zs H (kept++fs)) (fun k=>k=w.heap.size\/oB none=some k) (Bc kept 4096) wb r w'->r=.returned (.tuple #[])/\(∃a1 c1,w'.cell? ⟨w.heap.size,0,none⟩=some (.slice a1 ns.length c1)/\A6 AW w' (w.heap.size+1) (.slice a1 (ns.map (fun k=>((k:Nat):Int))).length c1) (ns.map (fun k=>((k:Nat):Int))))/\Below w.heap.size w w'/\w.heap.size<w'.heap.size):=A5 <| by
  rintro r w' ⟨rfl,S',⟨⟨a1,c1,ho,rfl⟩,hb⟩,ht,hs⟩;rw[hmk,HNM.out] at ho;have hl9:(ns.map (fun k=>((k:Nat):Int))).length=ns.length:=List.length_map _;refine⟨rfl,⟨a1,c1,by rw[<- hl9];exact ho.cell,ho.row⟩,?_,ho.lt⟩;refine((BJ.of_below (S:=fun k=>w.heap.size<=k) hb0).then ht (fun k hk hh=>?_)).below (fun k hk hh=>by omega);rcases hh with e|e
  ·omega
  ·cases e
 have HEM:Hid (Fk wp w gp OP PV a c l):=h;rw[hmk,HLQ.out];have HRO:Hid (∀(w1:World) a1 c1,A6 AW w1 (w.heap.size+1) (.slice a1 (ns.map (fun k=>((k:Nat):Int))).length c1) (ns.map (fun k=>((k:Nat):Int)))->Calls Tryz.prog 190 #[.slice a1 ns.length c1] w1 fun r w'=>∃a' c',r=.returned (.slice a' (ns.foldl C4 []).length c')/\A6 CX w' w1.heap.size (.slice a' (ns.foldl C4 []).length c') (ns.foldl C4 [])/\Below w1.heap.size w1 w'):=fun w1 a1 c1 hr=>Pi a1 c1 _ ns w1 hn1 hn2 hr
 clear HLQ hrq;generalize ns.foldl C4 []=RS at hrl HRO ⊢;have HWB:Hid (wb=_):=hwb;clear hwb hb0 hev hset hst h hP hK hmk hns hn2 hwl HNM;unfold FG;go_enter Tryz.func188,Tryz.ntmps188
 go_wp2_with fail
 rw[<- HWB.out];refine hek.mono ?_;rintro r w1 hv;obtain⟨rfl,⟨a1,c1,k0,hrow⟩,hb1,hlt1⟩:=HE.out _ _ hv;have hro:=HRO.out w1 a1 c1 hrow;have HB1:Hid (Below w.heap.size w w1):=hb1;clear hek hv hrow hb1 HRO HE;go_wp2_with fail
 refine hro.mono ?_;rintro r w2 ⟨a2,c2,rfl,hr2,hb2⟩;have HB2:Hid (Below w.heap.size w w2):=HB1.out.trans (hb2.mono HB1.out.size);have hw12:=HB1.out.size;have hop:=HEM.out.ops.lt;have hoa:=HEM.out.ops.own
 have HRR:Hid (∀wX,BJ (fun k=>k=OP\/oB a=some k) w2 wX->A6 CX wX w1.heap.size (.slice a2 RS.length c2) RS):=A5 <| fun wX hX=>hr2.tch hX (fun k hk hh=>by
  have h9:=(hr2.own k (by rw[CS];exact hk)).1
  rcases hh with e|e
  ·omega
  ·have:=(hoa k e).2;omega)
 have HST:Hid (Br wp w2 w2 gp OP PV a (l++(RS.take 0).map VB)):=A5 <| by
  rw[List.take_zero,List.map_nil,List.append_nil];exact Br.start (HEM.out.below HB2.out) (Below.refl _ _)
 clear hro hr2 hb2 k0 hoa;go_wp2_with fail
 go_loopw [13] (fun iv wr=>∃i:Nat,i<=RS.length/\iv=.int .i64 i/\Br wp w2 wr gp OP PV a (l++(RS.take i).map VB)) (fun iv _=>RS.length-(intOf iv).toNat)
 case atStart=>exact⟨0,Nat.zero_le _,rfl,HST.out⟩
 case round =>
  obtain⟨i,hi,rfl,a3,c3,he,ht,hn⟩:=hrel;by_cases hlt:i<RS.length
  ·have hrw:=HRR.out wr ht;obtain⟨g,rfl⟩:∃g,a2=some ⟨g,0,none⟩:=by
    obtain⟨a',c',e,h1⟩:=hrw.form;obtain⟨g,N,f,e2,_⟩:=h1 (by omega);simp only[Value.slice.injEq] at e;exact⟨g,by rw[e.1,e2]⟩
   obtain⟨hgl,x0,x1⟩:=SU hrw i hlt;(obtain⟨ll,hll⟩:∃ll,l++(RS.take i).map VB=ll:=⟨_,rfl⟩);(have hlen:ll.length<=720000:=by rw[<- hll,List.length_append,List.length_map,List.length_take];omega);rw[hll] at he;(have HL:Hid (l++(RS.take (i+1)).map VB=ll++[⟨3,((AI CX RS i).1:Nat),((AI CX RS i).2:Nat),0⟩]):=A5 <| by rw[Pl RS i hlt,<- List.append_assoc,hll];rfl);generalize (AI CX RS i).1=f at x0 HL;generalize (AI CX RS i).2=k at x1 HL;(have HPUT:Hid (∀wX,Below wr.heap.size wr wX->Calls Tryz.prog 146 #[.agg #[.int .i64 3,.int .i64 f,.int .i64 k,.int .u64 0],.pointer (some ⟨OP,0,none⟩)] wX (Db OP wp.heap.size a3 (ll++[⟨3,f,k,0⟩]) wX)):=fun wX hX=>Ha OP wp.heap.size c3 a3 ll ⟨3,f,k,0⟩ wX (by omega) (he.ops.below hX));have hput:=HPUT.out (wr.alloc (.cells #[.int .i64 f,.int .i64 k] 279)) Ax;(have L1:(0:Int)<=(i:Int):=by omega);(have L2:(i:Int)<(RS.length:Int):=by omega);have HEE:Hid _:=he;have HT:Hid _:=ht;have HN:Hid (∀k,oB a3=some k->oB a=some k\/w2.heap.size<=k):=hn;clear he ht hn hrw hll HPUT;(go_wp2_with fail);refine hput.mono ?_;rintro r w4 hp;obtain⟨rfl,hr2⟩:=Br.put HEE.out HT.out HN.out (Db.pre (c:=c3) (l:=ll) Ax hp);clear hput hp;(go_wp2_with fail);go_roundw;(case rel=>exact⟨i+1,by omega,by go_num,by rw[HL.out];exact hr2⟩);case measure=>simp[intOf];omega
  ·(have ei:i=RS.length:=by omega);subst ei;rw[List.take_length] at he;(go_wp2_with fail);refine bodyPost_end (v:=.tuple #[]) (by simp[results,Tryz.results188,go_sem]) rfl ?_;exact Db.pre (c:=c) (l:=l) HB2.out (Br.fin ⟨a3,c3,he,ht,hn⟩)
set_option maxHeartbeats 1000000 in
theorem Si (gp:Nat) (w:World) : Calls Tryz.prog 147 #[.pointer (some ⟨gp,0,none⟩)] w fun r w'=>r=.returned (.slice (some ⟨w.heap.size+1,0,none⟩) 5 5)/\w'=(w.alloc (.cells #[.pointer (some ⟨gp,0,none⟩)] 157)).alloc (.cells #[.func (.func 184) #[] #[.pointer (some ⟨w.heap.size,0,none⟩)],.bool true,.func (.func 188) #[] #[.pointer (some ⟨w.heap.size,0,none⟩)],.bool true,.func (.func 191) #[] #[.pointer (some ⟨w.heap.size,0,none⟩)],.bool false,.func (.func 192) #[] #[.pointer (some ⟨w.heap.size,0,none⟩)],.bool true,.func (.func 194) #[] #[.pointer (some ⟨w.heap.size,0,none⟩)],.bool true] 235):=by
 go_enter Tryz.func147,Tryz.ntmps147
 go_wp2_with fail
 go_ret;exact⟨rfl,rfl⟩
structure Ps (w:World) (gp gz cz gl M:Nat) (zs:List Int) (H:Nat->Ht) (n:Nat) (kept gone fs:List P3) (aR aC:Option Addr) (cR bR cC bC:Nat):Prop where
 P:Iu w gp gz cz gl M zs H (BF kept fs)
 K:U4 zs H kept fs
 zr:∀i,0<=zs.getD i 0/\zs.getD i 0<18446744073709551616
 rt:(DX gone n).length<=1000
 c4:w.cell? ⟨gp,4,none⟩=some (.slice aR (DX gone n).length cR)
 rR:A6 AW w bR (.slice aR (DX gone n).length cR) (DX gone n)
 fl:fs.length<=1000
 F:∀q∈fs,∃F lv pg:Nat,q=⟨F,lv,pg⟩/\1<=lv/\lv<=3/\pg+ID lv<=4096/\F*16+16<=zs.length
 c3:w.cell? ⟨gp,3,none⟩=some (.slice aC fs.length cC)
 rC:A6 FL w bC (.slice aC fs.length cC) fs
def Hh (zs:List Int) (H:Nat->Ht) (n:Nat) (kept gone fs:List P3):Nat->List BP
 | 0=>AX zs H (kept++fs) (Bc kept 4096)
 | 1=>BB (Ez zs H (kept++fs) (Bc kept 4096))
 | 2=>(DX gone n).map T5
 | 3=>AM H (kept++fs) fs
 | _=>Af zs H (kept++fs) (Bc kept 4096)
def ED (t:Nat) (l:List BP):List BP:=if t=2 then l else BG l
def IE (zs:List Int) (H:Nat->Ht) (n:Nat) (kept gone fs:List P3):Nat->List BP
 | 0=>[]
 | t+1=>IE zs H n kept gone fs t++ED t (Hh zs H n kept gone fs t)
theorem MR (zs:List Int) (H:Nat->Ht) (n:Nat) (kept gone fs:List P3) (hr:(DX gone n).length<=1000) (hf:fs.length<=1000) (t:Nat):(Hh zs H n kept gone fs t).length<=20000:=by
 have h1:=IW kept 4096;match t with
 | 0=>exact Nat.le_trans (Fp zs H (kept++fs) (Bc kept 4096)) (by omega)
 | 1 =>
  show (BB (Ez zs H (kept++fs) (Bc kept 4096))).length<=20000;rw[WW,List.length_map];have:=MZ (Ez zs H (kept++fs) (Bc kept 4096)) 4096;omega
 | 2=>show ((DX gone n).map T5).length<=20000;rw[List.length_map];omega
 | 3=>show (AM H (kept++fs) fs).length<=20000;rw[FD];omega
 | t+4=>exact Nat.le_trans (GA zs H (kept++fs) (Bc kept 4096)) (by omega)
theorem SH (t:Nat) (l:List BP):(ED t l).length<=l.length+1:=by
 unfold ED BG;split
 ·omega
 ·split
  ·exact Nat.zero_le _
  ·simp
theorem Kj (zs:List Int) (H:Nat->Ht) (n:Nat) (kept gone fs:List P3) (hr:(DX gone n).length<=1000) (hf:fs.length<=1000):∀t,(IE zs H n kept gone fs t).length<=t*20001
 | 0=>Nat.zero_le _
 | t+1=>by
  have h1:=Kj zs H n kept gone fs hr hf t;have h2:=MR zs H n kept gone fs hr hf t;have h3:=SH t (Hh zs H n kept gone fs t);show (IE zs H n kept gone fs t++ED t (Hh zs H n kept gone fs t)).length<=_;rw[List.length_append];omega
theorem U8 (zs:List Int) (H:Nat->Ht) (n:Nat) (kept gone fs:List P3):IE zs H n kept gone fs 5=BG (AX zs H (kept++fs) (Bc kept 4096))++(BG (BB (Ez zs H (kept++fs) (Bc kept 4096)))++(Al n gone++(BG (AM H (kept++fs) fs)++BG (Af zs H (kept++fs) (Bc kept 4096))))):=by
 rw[Ob];show ((((([]++ED 0 _)++ED 1 _)++ED 2 _)++ED 3 _)++ED 4 _)=_;unfold ED;simp[Hh]
def Ew:Nat->Nat
 | 0=>184
 | 1=>188
 | 2=>191
 | 3=>192
 | _=>194
theorem Uk (w:World) (gp gz cz gl M:Nat) (zs:List Int) (H:Nat->Ht) (n:Nat) (kept gone fs:List P3) (aR aC:Option Addr) (cR bR cC bC:Nat) (hI:Ps w gp gz cz gl M zs H n kept gone fs aR aC cR bR cC bC) (t:Nat) (ht:t<5) (wX:World) (a1:Option Addr) (c1:Nat) (l:List BP) (hl:l.length<=700000) (he:Fk w wX gp w.heap.size (w.heap.size+1) a1 c1 l) : Calls Tryz.prog (Ew t) #[FG w.heap.size,.pointer (some ⟨w.heap.size+1,0,none⟩)] wX (Db w.heap.size w.heap.size a1 (l++Hh zs H n kept gone fs t) wX):=by
 obtain⟨hP,hK,hzr,hrt,c4,hrR,hfl,hF,c3,hrC⟩:=hI;match t,ht with
 | 0,_=>exact Tg w gp gz cz gl M w.heap.size (w.heap.size+1) c1 a1 l zs H kept fs wX hzr hl hP hK he
 | 1,_=>exact Uo w gp gz cz gl M w.heap.size (w.heap.size+1) c1 a1 l zs H kept fs wX hzr hl hP hK he
 | 2,_=>exact Rs w gp w.heap.size (w.heap.size+1) c1 cR bR a1 aR l (DX gone n) wX hl hrt hP.lt c4 hrR he
 | 3,_=>exact Sv w gp gz cz gl M w.heap.size (w.heap.size+1) c1 cC bC a1 aC l zs H kept fs wX hK.len hl hfl hP hK.pl hF c3 hrC he
 | 4,_=>exact Tw w gp gz cz gl M w.heap.size (w.heap.size+1) c1 a1 l zs H kept fs wX hzr hl hP hK he
theorem UT (t:Nat) (ht:t<5) (a b:Value) (wX:World):(callFunc (Ew t) #[a,b]).run Tryz.prog wX=.ok (.enter (Ew t) #[a,b]) wX:=by
 rcases(show t=0\/t=1\/t=2\/t=3\/t=4 by omega) with rfl|rfl|rfl|rfl|rfl<;>kernel_rfl
theorem UV {t:Nat} {l:List BP} (ht:t≠2) (h:l≠[]):ED t l=l++[Cz]:=by unfold ED;rw[if_neg ht,Ef h]
theorem VY {t:Nat} {l:List BP} (h:l=[]):ED t l=[]:=by unfold ED;rw[h];split<;>rfl
theorem Ud (l:List BP):ED 2 l=l:=rfl
set_option maxHeartbeats 4000000 in
theorem Ou (w:World) (gp gz cz gl M:Nat) (zs:List Int) (H:Nat->Ht) (n:Nat) (kept gone fs:List P3) (aR aC:Option Addr) (cR bR cC bC:Nat) (hI:Ps w gp gz cz gl M zs H n kept gone fs aR aC cR bR cC bC) : Calls Tryz.prog 86 #[.pointer (some ⟨gp,0,none⟩)] w fun r w'=>∃a c,r=.returned (.slice a (IE zs H n kept gone fs 5).length c)/\A6 Ba w' w.heap.size (.slice a (IE zs H n kept gone fs 5).length c) (IE zs H n kept gone fs 5)/\Below w.heap.size w w':=by
 have hpa:=Si gp (w.alloc (.cells #[.slice none 0 0] 25));have hsz:(w.alloc (.cells #[.slice none 0 0] 25)).heap.size=w.heap.size+1:=by simp
 rw[hsz] at hpa;obtain⟨wk,hwk⟩:∃wk,wk=((w.alloc (.cells #[.slice none 0 0] 25)).alloc (.cells #[.pointer (some ⟨gp,0,none⟩)] 157)).alloc (.cells #[.func (.func 184) #[] #[.pointer (some ⟨w.heap.size+1,0,none⟩)],.bool true,.func (.func 188) #[] #[.pointer (some ⟨w.heap.size+1,0,none⟩)],.bool true,.func (.func 191) #[] #[.pointer (some ⟨w.heap.size+1,0,none⟩)],.bool false,.func (.func 192) #[] #[.pointer (some ⟨w.heap.size+1,0,none⟩)],.bool true,.func (.func 194) #[] #[.pointer (some ⟨w.heap.size+1,0,none⟩)],.bool true] 235):=⟨_,rfl⟩
 have hzk:wk.heap.size=w.heap.size+3:=by rw[hwk];simp
 have hbk:Below w.heap.size w wk:=by rw[hwk];exact(((Below.refl _ _).alloc (Nat.le_refl _) _).alloc (by simp) _).alloc (by simp;omega) _
 have HEM:Hid (Fk w wk gp w.heap.size (w.heap.size+1) none 0 []):=A5 <| by
  refine⟨⟨by omega,by rw[hwk];simp[go_sem],by rw[hwk];simp[go_sem],⟨by simp[AK],.inl ⟨rfl,rfl⟩⟩,by simp[oB,Value.ownBlock],by omega⟩,hbk,by rw[hwk];simp[go_sem],by omega,by omega,by simp[oB,Value.ownBlock],Nat.le_refl _⟩
 have HC:Hid (∀t,t<5->wk.cell? ⟨w.heap.size+2,t*2,none⟩=some (.func (.func (Ew t)) #[] #[.pointer (some ⟨w.heap.size+1,0,none⟩)])/\wk.cell? ⟨w.heap.size+2,t*2+1,none⟩=some (.bool (decide (t≠2)))):=A5 <| fun t ht=>by
  have hk:wk.heap[w.heap.size+2]?=some (.cells #[.func (.func 184) #[] #[.pointer (some ⟨w.heap.size+1,0,none⟩)],.bool true,.func (.func 188) #[] #[.pointer (some ⟨w.heap.size+1,0,none⟩)],.bool true,.func (.func 191) #[] #[.pointer (some ⟨w.heap.size+1,0,none⟩)],.bool false,.func (.func 192) #[] #[.pointer (some ⟨w.heap.size+1,0,none⟩)],.bool true,.func (.func 194) #[] #[.pointer (some ⟨w.heap.size+1,0,none⟩)],.bool true] 235):=by
   rw[hwk];have:=heap_alloc_new ((w.alloc (.cells #[.slice none 0 0] 25)).alloc (.cells #[.pointer (some ⟨gp,0,none⟩)] 157)) (.cells #[.func (.func 184) #[] #[.pointer (some ⟨w.heap.size+1,0,none⟩)],.bool true,.func (.func 188) #[] #[.pointer (some ⟨w.heap.size+1,0,none⟩)],.bool true,.func (.func 191) #[] #[.pointer (some ⟨w.heap.size+1,0,none⟩)],.bool false,.func (.func 192) #[] #[.pointer (some ⟨w.heap.size+1,0,none⟩)],.bool true,.func (.func 194) #[] #[.pointer (some ⟨w.heap.size+1,0,none⟩)],.bool true] 235);simpa using this
  unfold World.cell?;rw[hk];match t,ht with
  | 0,_=>exact⟨rfl,rfl⟩
  | 1,_=>exact⟨rfl,rfl⟩
  | 2,_=>exact⟨rfl,rfl⟩
  | 3,_=>exact⟨rfl,rfl⟩
  | 4,_=>exact⟨rfl,rfl⟩
 have HPA:Hid (∀t,t<5->∀wX a1 c1 (l:List BP),l.length<=700000->Fk w wX gp w.heap.size (w.heap.size+1) a1 c1 l->Calls Tryz.prog (Ew t) #[FG w.heap.size,.pointer (some ⟨w.heap.size+1,0,none⟩)] wX (Db w.heap.size w.heap.size a1 (l++Hh zs H n kept gone fs t) wX)):=fun t ht wX a1 c1 l hl he=>Uk w gp gz cz gl M zs H n kept gone fs aR aC cR bR cC bC hI t ht wX a1 c1 l hl he
 have HRUN:Hid (∀t,t<5->∀(a b:Value) (wX:World),(callFunc (Ew t) #[a,b]).run Tryz.prog wX=.ok (.enter (Ew t) #[a,b]) wX):=UT;have HAL:Hid (∀t,(IE zs H n kept gone fs t).length<=t*20001):=Kj zs H n kept gone fs hI.rt hI.fl;have HPL:Hid (∀t,(Hh zs H n kept gone fs t).length<=20000):=MR zs H n kept gone fs hI.rt hI.fl;have HAS:Hid (∀t,IE zs H n kept gone fs (t+1)=IE zs H n kept gone fs t++ED t (Hh zs H n kept gone fs t)):=fun t=>rfl
 have HZK:Hid (wk.heap.size=w.heap.size+3):=hzk;have HBK:Hid (Below w.heap.size w wk):=hbk;have HA0:Hid (IE zs H n kept gone fs 0=[]):=rfl;have N3:w.heap.size+2<wk.heap.size:=by omega
 generalize IE zs H n kept gone fs=XA at *;generalize Hh zs H n kept gone fs=XP at *;have HWK:Hid (wk=_):=hwk;clear hI hwk hzk hbk hsz;go_enter Tryz.func86,Tryz.ntmps86
 go_wp2_with fail
 refine hpa.mono ?_;rintro r w1 ⟨rfl,hw1⟩;have hw2:wk=w1:=HWK.out.trans hw1.symm;clear hpa hw1 HWK;subst hw2;go_wp2_with fail
 go_loopw [12] (fun iv wr=>∃t:Nat,t<=5/\iv=.int .i64 t/\Br w wk wr gp w.heap.size (w.heap.size+1) none (XA t)) (fun iv _=>5-(intOf iv).toNat)
 case atStart=>exact⟨0,Nat.zero_le _,rfl,by rw[HA0.out];exact Br.start HEM.out (Below.refl _ _)⟩
 case round =>
  obtain⟨t,ht5,rfl,a1,c1,he,ht,hn⟩:=hrel;by_cases hlt:t<5
  ·have hp2:¬(w.heap.size+2=w.heap.size\/oB none=some (w.heap.size+2)):=fun hh=>by
    rcases hh with e|e
    ·omega
    ·cases e
   have bp:=ht.block (w.heap.size+2) N3 hp2;obtain⟨x0,x1⟩:=HC.out t hlt;have y0:wr.cell? ⟨w.heap.size+2,t*2,none⟩=some (.func (.func (Ew t)) #[] #[.pointer (some ⟨w.heap.size+1,0,none⟩)]):=(EY bp).trans x0;have y1:wr.cell? ⟨w.heap.size+2,t*2+1,none⟩=some (.bool (decide (t≠2))):=(EY bp).trans x1;have o0:=he.ops.cell;have hol:=he.ops.lt;have hal:=HAL.out t;have hpl:=HPL.out t;(obtain⟨sd,hsd⟩:∃sd,decide (t≠2)=sd:=⟨_,rfl⟩);rw[hsd] at y1;have HSD:Hid (decide (t≠2)=sd):=hsd;(obtain⟨L,hL⟩:∃L,XA t=L:=⟨_,rfl⟩);(obtain⟨X,hX⟩:∃X,XP t=X:=⟨_,rfl⟩);(have HSU:Hid (XA (t+1)=L++ED t X):=A5 <| by rw[HAS.out,hL,hX]);rw[hL] at o0 hal he;rw[hX] at hpl;(obtain⟨wz,hwz⟩:∃wz,wz=wr.alloc (.cells #[.func (.func (Ew t)) #[] #[.pointer (some ⟨w.heap.size+1,0,none⟩)],.bool sd] 235):=⟨_,rfl⟩);(have hbz:Below wr.heap.size wr wz:=by rw[hwz];exact Ax);(have z0:wz.cell? ⟨wr.heap.size,0,none⟩=some (.func (.func (Ew t)) #[] #[.pointer (some ⟨w.heap.size+1,0,none⟩)]):=by rw[hwz];simp[go_sem]);(have z1:wz.cell? ⟨wr.heap.size,1,none⟩=some (.bool sd):=by rw[hwz];simp[go_sem]);(have N4:wr.heap.size<wz.heap.size:=by rw[hwz];simp);have hez:=he.below hbz;have hpart:=HPA.out t hlt wz a1 c1 L (by omega) hez;have hrun:=HRUN.out t hlt;rw[hX] at hpart;generalize Ew t=PF at *;have HE:Hid _:=hez;have HT:Hid (BJ (fun k=>k=w.heap.size\/oB none=some k) wk wz):=ht.then (BJ.of_below (S:=fun _=>False) hbz) (fun k _ h=>h.elim);have HN:Hid (∀k,oB a1=some k->oB none=some k\/wk.heap.size<=k):=hn;have HNZ:Hid (¬(wr.heap.size=w.heap.size\/oB a1=some wr.heap.size)):=A5 <| fun hh=>by
    rcases hh with e|e
    ·omega
    ·have:=(he.ops.own _ e).2;omega
   have p0:=hez.ops.cell;(have L1:(0:Int)<=(t:Int):=by omega);(have L2:(t:Int)<5:=by omega);have HWZ:Hid (wz=_):=hwz;clear he ht hn bp x0 x1 hsd hL hX hwz hbz hez hp2;unfold FG at hpart;(go_wp2_with fail);rw[<- HWZ.out];refine hpart.mono ?_;rintro r w2 hp;have hbl:w2.heap[wr.heap.size]?=wz.heap[wr.heap.size]?:=by
    obtain⟨_,a',c',_,h2,_⟩:=hp;exact h2.block _ N4 HNZ.out
   obtain⟨rfl,a2,c2,he2,ht2,hn2⟩:=Br.put HE.out HT.out HN.out hp;have q1:w2.cell? ⟨wr.heap.size,1,none⟩=some (.bool sd):=(EY hbl).trans z1;(obtain⟨L3,hL3⟩:∃L3,L++X=L3:=⟨_,rfl⟩);rw[hL3] at he2;have o2:=he2.ops.cell;have hol2:=he2.ops.lt;(have hlen3:L3.length=L.length+X.length:=by rw[<- hL3,List.length_append]);have HE2:Hid (Fk w w2 gp w.heap.size (w.heap.size+1) a2 c2 L3):=he2;have HT2:Hid (BJ (fun k=>k=w.heap.size\/oB none=some k) wk w2):=ht2;have HN2:Hid (∀k,oB a2=some k->oB none=some k\/wk.heap.size<=k):=hn2;have HL3:Hid (L++X=L3):=hL3;have N5:wr.heap.size<w2.heap.size:=by
    obtain⟨_,a',c',_,h2,_⟩:=hp;exact Nat.lt_of_lt_of_le N4 h2.size
   clear hpart hp hbl he2 ht2 hn2 hL3 hrun;cases sd
   ·have ht2':t=2:=by
     have:=of_decide_eq_false HSD.out;omega
    (have HQ:Hid (XA (t+1)=L3):=A5 <| by rw[HSU.out,ht2',Ud,HL3.out]);clear ht2';(go_wp2_with fail);go_roundw;(case rel=>exact⟨t+1,by omega,by go_num,by rw[HQ.out];exact⟨a2,c2,HE2.out,HT2.out,HN2.out⟩⟩);case measure=>simp[intOf];omega
   ·have ht2':t≠2:=of_decide_eq_true HSD.out;by_cases hx:X=[]
    ·(have HQ:Hid (XA (t+1)=L3):=A5 <| by rw[HSU.out,VY hx,List.append_nil,<- HL3.out,hx,List.append_nil]);(have hle:L3.length=L.length:=by rw[hlen3,hx];rfl);have dl:decide ((L.length:Int)<(L3.length:Int))=false:=decide_eq_false (by omega);have dl2:decide (L.length<L3.length)=false:=decide_eq_false (by omega);(have dl3:¬(L.length<L3.length):=by omega);clear hx hle hlen3;(go_wp2_with fail);go_roundw;(case rel=>exact⟨t+1,by omega,by go_num,by rw[HQ.out];exact⟨a2,c2,HE2.out,HT2.out,HN2.out⟩⟩);case measure=>simp[intOf];omega
    ·(have HQ:Hid (XA (t+1)=L3++[Cz]):=A5 <| by rw[HSU.out,UV ht2' hx,<- List.append_assoc,HL3.out]);have hxl:0<X.length:=List.length_pos_iff.2 hx;have dl:decide ((L.length:Int)<(L3.length:Int))=true:=decide_eq_true (by omega);have dl2:decide (L.length<L3.length)=true:=decide_eq_true (by omega);(have dl3:L.length<L3.length:=by omega);have hput:=Ha w.heap.size w.heap.size c2 a2 L3 ⟨2,0,0,0⟩ w2 (by omega) HE2.out.ops;clear hx hxl hlen3;dsimp only at hput;(go_wp2_with fail);refine hput.mono ?_;rintro r w3 hp3;obtain⟨rfl,hr3⟩:=Br.put HE2.out HT2.out HN2.out hp3;clear hput hp3;(go_wp2_with fail);go_roundw;(case rel=>exact⟨t+1,by omega,by go_num,by rw[HQ.out];exact hr3⟩);case measure=>simp[intOf];omega
  ·(have et:t=5:=by omega);subst et;have o0:=he.ops.cell;have hol:=he.ops.lt;have HE:Hid _:=he;clear he ht hn;(go_wp2_with fail);go_ret;exact⟨a1,c1,rfl,HE.out.ops.row,HE.out.pl⟩
end Go.Proofs.YtnmhkgmmpkjjeaaGreat
