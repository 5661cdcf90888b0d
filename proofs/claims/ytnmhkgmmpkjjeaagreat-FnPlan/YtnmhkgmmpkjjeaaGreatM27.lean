import Derived.Test.YtnmhkgmmpkjjeaaGreatM26
import Derived.Laws.EntriesVeiled
namespace Go.Proofs.YtnmhkgmmpkjjeaaGreat
open ChangeShapes WideShapes ChangeAt RowKit Proofs.Tryz
set_option linter.all false
set_option maxRecDepth 100000
set_option maxHeartbeats 4000000
attribute [local go_sem ↓] wp_at_zero wp_at_succ
def QP (wp:World) (G B:Nat) (zs:List Int) (H:Nat->Ht) (all:List P3) (S:Nat->Prop) (es:List En) (w:World):Prop :=
 (∃a c,Bw w G 0 B a c (C4 (Fg zs H all es) 4096)/\S=(fun k=>k=G\/oB a=some k))/\Bl wp w
theorem Yy(wp:World)(G B:Nat)(zs:List Int)(H:Nat->Ht)(all:List P3)(hzr:∀i,0<=zs.getD i 0/\zs.getD i 0<18446744073709551616)(hlo:wp.heap.size<=G)(hB:wp.heap.size<=B):K7 189 G zs H all wp (QP wp G B zs H all):=by
 refine⟨fun a b w=>?_,?_,?_,?_,?_⟩
 ·kernel_rfl
 ·rintro S es e wX ⟨⟨a,c,ho,rfl⟩,hb⟩ ⟨lv,pg,ad,rfl,h1,h3,h4,h5⟩ hes;refine(R6 G B c a (Fg zs H all es) (Fg zs H all (es++[⟨lv,pg,ad⟩])) zs H all lv pg ad wX h1 h3 h4 (hzr _) (fun q=>?_) ho).mono ?_
  ·rw[PD];congr 2;dsimp only;rw[Cx lv];by_cases hh:pg<=q/\q<pg+Ay lv
   ·rw[decide_eq_true hh,decide_eq_true (by omega)]
   ·rw[decide_eq_false hh,decide_eq_false (by omega)]
  rintro r w' ⟨rfl,a',c',h6,h7,h8⟩;refine⟨rfl,fun k=>k=G\/oB a'=some k,⟨⟨a',c',h6,rfl⟩,?_⟩,h7,?_⟩
  ·refine((BF.of_below (S:=fun k=>wp.heap.size<=k) hb).then h7 (fun k hk hh=>?_)).below (fun k hk hh=>by omega);rcases hh with e|e
   ·omega
   ·have:=(ho.row.own k (by rw[Cc];exact e)).1;omega
  ·intro k hk hh;rcases hh with e|e
   ·exact .inl e
   ·rcases h8 with e2|⟨j,e2,hj⟩
    ·exact .inr (by rw[<- e2];exact e)
    ·rw[e] at e2;simp only[Option.some.injEq] at e2;omega
 ·rintro S es wX wY ⟨⟨a,c,ho,rfl⟩,hb⟩ hX;exact⟨⟨a,c,ho.tch (BF.of_below (S:=fun _=>False) hX) (fun f=>f) (fun _ _ f=>f),rfl⟩,Ab hb hX⟩
 ·rintro S es wX ⟨_,hb⟩;exact hb
 ·rintro S es wX ⟨⟨a,c,ho,rfl⟩,hb⟩ k hk;rcases hk with e|e
  ·rw[e];exact ho.lt
  ·exact(ho.row.own k (by rw[Cc];exact e)).2
def Xa (r:Nat×Nat):BP:=⟨3,r.1,r.2,0⟩
theorem XZ(mk:Nat->Bool):B8 mk=(Br mk 4096 4096).map Xa:=rfl
theorem TN{w:World}{b g c n:Nat}{xs:List (Nat×Nat)}(h:A8 Ce w b (.slice (some ⟨g,0,none⟩) n c) xs)(i:Nat)(hi:i<xs.length):g<w.heap.size/\w.cell? ⟨g,i*2,none⟩=some (.int .i64 ((AQ Ce xs i).1:Nat))/\w.cell? ⟨g,i*2+1,none⟩=some (.int .i64 ((AQ Ce xs i).2:Nat)):=by
 obtain⟨hB,hc,hm,f,hr,hf⟩:=NP h;obtain⟨a0,a1⟩:=hf i hi;exact⟨hr.lt,by rw[hr.cell (i:=i*2) (by omega),a0],by rw[hr.cell (i:=i*2+1) (by omega),a1]⟩
theorem QL(xs:List (Nat×Nat))(i:Nat)(hi:i<xs.length):(xs.take (i+1)).map Xa=(xs.take i).map Xa++[Xa (AQ Ce xs i)]:=by
 rw[D6 Ce xs i hi,List.map_append];rfl
theorem Mr(mk:Nat->Bool)(n:Nat):(Br mk n n).length<=n:=by
 have h:∀k,(Br mk n k).length<=k:=by
  intro k;induction k with
  | zero=>exact Nat.zero_le _
  | succ k ih =>
   rw[GL,List.length_append];split
   ·simp;omega
   ·simp;omega
 exact h n
theorem WR(zs:List Int)(H:Nat->Ht)(all:List P3):C4 (Fg zs H all []) 4096=[]:=by
 unfold C4;have:(List.range 4096).filter (Fg zs H all [])=[]:=by
  rw[List.filter_eq_nil_iff];intro a _ h;cases h
 rw[this];rfl
theorem Tv(wp:World)(gp gz cz gl M OP PV c:Nat)(a:Option Addr)(l:List BP)(zs:List Int)(H:Nat->Ht)(kept fs:List P3)(w:World)(hzr:∀i,0<=zs.getD i 0/\zs.getD i 0<18446744073709551616)(hl:l.length<=700000)(hP:Io wp gp gz cz gl M zs H (BZ kept fs))(hK:Tq zs H kept fs)(h:Gm wp w gp OP PV a c l):Calls prog 188 #[GO OP,.pointer (some ⟨PV,0,none⟩)] w (Dr OP wp.heap.size a (l++B8 (Fg zs H (kept++fs) (Bf kept 4096))) w):=by
 obtain⟨wb,hwb⟩:∃wb,wb=w.alloc (.cells #[.slice none 0 0] 160):=⟨_,rfl⟩
 have hb0:Bl w wb:=by rw[hwb];exact AO
 have hwl:wp.heap.size<=w.heap.size:=h.pl.size;have hev:=Yy wp w.heap.size (w.heap.size+1) zs H (kept++fs) hzr hwl (by omega);have hset:Bw wb w.heap.size 0 (w.heap.size+1) none 0 []:=by
  rw[hwb];exact⟨by simp,by simp[go_sem],by simp[go_sem],⟨by simp[AK],.inl ⟨rfl,rfl⟩⟩,by simp[oB,Value.ownBlock],by simp⟩
 have hst:QP wp w.heap.size (w.heap.size+1) zs H (kept++fs) (fun k=>k=w.heap.size\/oB none=some k) [] wb:=by
  refine⟨⟨none,0,?_,rfl⟩,(h.below hb0).pl⟩;rw[WR];exact hset
 have hek:=GS hev hP hK _ wb hst;have p1:=h.pv;have hvl:=h.vlt;obtain⟨mk,hmk⟩:∃mk,Fg zs H (kept++fs) (Bf kept 4096)=mk:=⟨_,rfl⟩
 obtain⟨ns,hns⟩:∃ns,(List.range 4096).filter mk=ns:=⟨_,rfl⟩
 have hn1:ns.length<=4096:=by
  rw[<- hns];exact Nat.le_trans (List.length_filter_le _ _) (by rw[List.length_range];omega)
 have hn2:∀x∈ns,x<4096:=fun x hx=>by
  rw[<- hns] at hx;exact List.mem_range.1 (List.mem_filter.1 hx).1
 have hrq:ns.foldl CL []=Br mk 4096 4096:=by rw[<- hns];exact Rd mk 4096
 have HNM:Hid (C4 mk 4096=ns.map (fun k=>((k:Nat):Int))):=A9 <| by rw[<- hns];rfl
 have hrl:(ns.foldl CL []).length<=4096:=by rw[hrq];exact Mr mk 4096
 have HLQ:Hid (l++B8 mk=l++(ns.foldl CL []).map Xa):=A9 <| by rw[hrq];rfl
 have HE:Hid (∀r w',Fb (QP wp w.heap.size (w.heap.size+1) zs H (kept++fs)) (fun k=>k=w.heap.size\/oB none=some k) (Bf kept 4096) wb r w'->r=.returned (.tuple #[])/\(∃a1 c1,w'.cell? ⟨w.heap.size,0,none⟩=some (.slice a1 ns.length c1)/\A8 Ae w' (w.heap.size+1) (.slice a1 (ns.map (fun k=>((k:Nat):Int))).length c1) (ns.map (fun k=>((k:Nat):Int))))/\Bl w w'/\w.heap.size<w'.heap.size):=A9 <| by
  rintro r w' ⟨rfl,S',⟨⟨a1,c1,ho,rfl⟩,hb⟩,ht,hs⟩;rw[hmk,HNM.out] at ho;have hl9:(ns.map (fun k=>((k:Nat):Int))).length=ns.length:=List.length_map _;refine⟨rfl,⟨a1,c1,by rw[<- hl9];exact ho.cell,ho.row⟩,?_,ho.lt⟩;refine((BF.of_below (S:=fun k=>w.heap.size<=k) hb0).then ht (fun k hk hh=>?_)).below (fun k hk hh=>by omega);rcases hh with e|e
  ·omega
  ·cases e
 have HEM:=A5 h;rw[hmk,HLQ.out];have HRO:Hid (∀(w1:World) a1 c1,A8 Ae w1 (w.heap.size+1) (.slice a1 (ns.map (fun k=>((k:Nat):Int))).length c1) (ns.map (fun k=>((k:Nat):Int)))->Calls prog 190 #[.slice a1 ns.length c1] w1 fun r w'=>∃a' c',r=.returned (.slice a' (ns.foldl CL []).length c')/\A8 Ce w' w1.heap.size (.slice a' (ns.foldl CL []).length c') (ns.foldl CL [])/\Bl w1 w'):=fun w1 a1 c1 hr=>Qk a1 c1 _ ns w1 hn1 hn2 hr
 clear HLQ hrq;generalize ns.foldl CL []=RS at hrl HRO ⊢;have HWB:=A5 hwb;clear hwb hb0 hev hset hst h hP hK hmk hns hn2 hwl HNM;unfold GO;go_enter func188,ntmps188
 go_wp2_with fail
 rw[<- HWB.out];refine hek.mono ?_;rintro r w1 hv;obtain⟨rfl,⟨a1,c1,k0,hrow⟩,hb1,hlt1⟩:=HE.out _ _ hv;have hro:=HRO.out w1 a1 c1 hrow;have HB1:=A5 hb1;clear hek hv hrow hb1 HRO HE;go_wp2_with fail
 refine hro.mono ?_;rintro r w2 ⟨a2,c2,rfl,hr2,hb2⟩;have HB2:Hid (Bl w w2):=Ab HB1.out hb2;have hop:=HEM.out.ops.lt;have hoa:=HEM.out.ops.own
 have HRR:Hid (∀wX,BF (fun k=>k=OP\/oB a=some k) w2 wX->A8 Ce wX w1.heap.size (.slice a2 RS.length c2) RS):=A9 <| fun wX hX=>hr2.tch hX (fun k hk hh=>by
  have h9:=(hr2.own k (by rw[Cc];exact hk)).1
  rcases hh with e|e
  ·omega
  ·have:=(hoa k e).2;omega)
 have HST:Hid (CG wp w2 w2 gp OP PV a (l++(RS.take 0).map Xa)):=A9 <| by
  rw[List.take_zero,List.map_nil,List.append_nil];exact CG.start (HEM.out.below HB2.out) AH
 clear hro hr2 hb2 k0 hoa;go_wp2_with fail
 go_loopw [13] (fun iv wr=>∃i:Nat,i<=RS.length/\iv=.int .i64 i/\CG wp w2 wr gp OP PV a (l++(RS.take i).map Xa)) (fun iv _=>RS.length-(intOf iv).toNat)
 case atStart=>exact⟨0,Nat.zero_le _,rfl,HST.out⟩
 case round =>
  obtain⟨i,hi,rfl,a3,c3,he,ht,hn⟩:=hrel;by_cases hlt:i<RS.length
  ·have hrw:=HRR.out wr ht;obtain⟨g,rfl⟩:∃g,a2=some ⟨g,0,none⟩:=by
    obtain⟨a',c',e,h1⟩:=hrw.form;obtain⟨g,N,f,e2,_⟩:=h1 (by omega);simp only[Value.slice.injEq] at e;exact⟨g,by rw[e.1,e2]⟩
   obtain⟨hgl,x0,x1⟩:=TN hrw i hlt;(obtain⟨ll,hll⟩:∃ll,l++(RS.take i).map Xa=ll:=⟨_,rfl⟩);(have hlen:ll.length<=720000:=by rw[<- hll,List.length_append,List.length_map,List.length_take];omega);rw[hll] at he;(have HL:Hid (l++(RS.take (i+1)).map Xa=ll++[⟨3,((AQ Ce RS i).1:Nat),((AQ Ce RS i).2:Nat),0⟩]):=A9 <| by rw[QL RS i hlt,<- List.append_assoc,hll];rfl);generalize (AQ Ce RS i).1=f at x0 HL;generalize (AQ Ce RS i).2=k at x1 HL;(have HPUT:Hid (∀wX,Bl wr wX->Calls prog 146 #[.agg #[.int .i64 3,.int .i64 f,.int .i64 k,.int .u64 0],.pointer (some ⟨OP,0,none⟩)] wX (Dr OP wp.heap.size a3 (ll++[⟨3,f,k,0⟩]) wX)):=fun wX hX=>Hb OP wp.heap.size c3 a3 ll ⟨3,f,k,0⟩ wX (by omega) (he.ops.below hX));have hput:=HPUT.out (wr.alloc (.cells #[.int .i64 f,.int .i64 k] 279)) AO;(have L1:(0:Int)<=(i:Int):=by omega);(have L2:(i:Int)<(RS.length:Int):=by omega);have HEE:=A5 he;have HT:=A5 ht;have HN:=A5 hn;clear he ht hn hrw hll HPUT;(go_wp2_with fail);refine hput.mono ?_;rintro r w4 hp;obtain⟨rfl,hr2⟩:=CG.put HEE.out HT.out HN.out (Dr.pre (c:=c3) (l:=ll) AO hp);clear hput hp;(go_wp2_with fail);go_roundw;(case rel=>exact⟨i+1,by omega,by go_num,by rw[HL.out];exact hr2⟩);case measure=>simp[intOf];omega
  ·(have ei:i=RS.length:=by omega);subst ei;rw[List.take_length] at he;(go_wp2_with fail);refine bodyPost_end (v:=.tuple #[]) (by simp[results,results188,go_sem]) rfl ?_;exact Dr.pre (c:=c) (l:=l) HB2.out (CG.fin ⟨a3,c3,he,ht,hn⟩)
theorem TH(gp:Nat)(w:World):Calls prog 147 #[.pointer (some ⟨gp,0,none⟩)] w fun r w'=>r=.returned (.slice (some ⟨w.heap.size+1,0,none⟩) 5 5)/\w'=(w.alloc (.cells #[.pointer (some ⟨gp,0,none⟩)] 157)).alloc (.cells #[.func (.func 184) #[] #[.pointer (some ⟨w.heap.size,0,none⟩)],.bool true,.func (.func 188) #[] #[.pointer (some ⟨w.heap.size,0,none⟩)],.bool true,.func (.func 191) #[] #[.pointer (some ⟨w.heap.size,0,none⟩)],.bool false,.func (.func 192) #[] #[.pointer (some ⟨w.heap.size,0,none⟩)],.bool true,.func (.func 194) #[] #[.pointer (some ⟨w.heap.size,0,none⟩)],.bool true] 235):=by
 go_enter func147,ntmps147
 go_wp2_with fail
 go_ret;exact⟨rfl,rfl⟩
structure RM (w:World) (gp gz cz gl M:Nat) (zs:List Int) (H:Nat->Ht) (n:Nat) (kept gone fs:List P3) (aR aC:Option Addr) (cR bR cC bC:Nat):Prop where
 P:Io w gp gz cz gl M zs H (BZ kept fs)
 K:Tq zs H kept fs
 zr:∀i,0<=zs.getD i 0/\zs.getD i 0<18446744073709551616
 rt:(Dj gone n).length<=1000
 c4:w.cell? ⟨gp,4,none⟩=some (.slice aR (Dj gone n).length cR)
 rR:A8 Ae w bR (.slice aR (Dj gone n).length cR) (Dj gone n)
 fl:fs.length<=1000
 F:∀q∈fs,∃F lv pg:Nat,q=⟨F,lv,pg⟩/\1<=lv/\lv<=3/\pg+Ga lv<=4096/\F*16+16<=zs.length
 c3:w.cell? ⟨gp,3,none⟩=some (.slice aC fs.length cC)
 rC:A8 Fk w bC (.slice aC fs.length cC) fs
def IC (zs:List Int) (H:Nat->Ht) (n:Nat) (kept gone fs:List P3):Nat->List BP
 | 0=>Ac zs H (kept++fs) (Bf kept 4096)
 | 1=>B8 (Fg zs H (kept++fs) (Bf kept 4096))
 | 2=>(Dj gone n).map Tl
 | 3=>AU H (kept++fs) fs
 | _=>Ai zs H (kept++fs) (Bf kept 4096)
def Ee (t:Nat) (l:List BP):List BP:=if t=2 then l else BU l
def JF (zs:List Int) (H:Nat->Ht) (n:Nat) (kept gone fs:List P3):Nat->List BP
 | 0=>[]
 | t+1=>JF zs H n kept gone fs t++Ee t (IC zs H n kept gone fs t)
theorem Mq(zs:List Int)(H:Nat->Ht)(n:Nat)(kept gone fs:List P3)(hr:(Dj gone n).length<=1000)(hf:fs.length<=1000)(t:Nat):(IC zs H n kept gone fs t).length<=20000:=by
 have h1:=In kept 4096;match t with
 | 0=>exact Nat.le_trans (EK zs H (kept++fs) (Bf kept 4096)) (by omega)
 | 1 =>
  show (B8 (Fg zs H (kept++fs) (Bf kept 4096))).length<=20000;rw[XZ,List.length_map];have:=Mr (Fg zs H (kept++fs) (Bf kept 4096)) 4096;omega
 | 2=>show ((Dj gone n).map Tl).length<=20000;rw[List.length_map];omega
 | 3=>show (AU H (kept++fs) fs).length<=20000;rw[Da];omega
 | t+4=>exact Nat.le_trans (ER zs H (kept++fs) (Bf kept 4096)) (by omega)
theorem SW(t:Nat)(l:List BP):(Ee t l).length<=l.length+1:=by
 unfold Ee BU;split
 ·omega
 ·split
  ·exact Nat.zero_le _
  ·simp
theorem LI(zs:List Int)(H:Nat->Ht)(n:Nat)(kept gone fs:List P3)(hr:(Dj gone n).length<=1000)(hf:fs.length<=1000):∀t,(JF zs H n kept gone fs t).length<=t*20001
 | 0=>Nat.zero_le _
 | t+1=>by
  have h1:=LI zs H n kept gone fs hr hf t;have h2:=Mq zs H n kept gone fs hr hf t;have h3:=SW t (IC zs H n kept gone fs t);show (JF zs H n kept gone fs t++Ee t (IC zs H n kept gone fs t)).length<=_;rw[List.length_append];omega
theorem Ui(zs:List Int)(H:Nat->Ht)(n:Nat)(kept gone fs:List P3):JF zs H n kept gone fs 5=BU (Ac zs H (kept++fs) (Bf kept 4096))++(BU (B8 (Fg zs H (kept++fs) (Bf kept 4096)))++(As n gone++(BU (AU H (kept++fs) fs)++BU (Ai zs H (kept++fs) (Bf kept 4096))))):=by
 rw[Ov];show ((((([]++Ee 0 _)++Ee 1 _)++Ee 2 _)++Ee 3 _)++Ee 4 _)=_;unfold Ee;simp[IC]
def Ff:Nat->Nat
 | 0=>184
 | 1=>188
 | 2=>191
 | 3=>192
 | _=>194
theorem VO(w:World)(gp gz cz gl M:Nat)(zs:List Int)(H:Nat->Ht)(n:Nat)(kept gone fs:List P3)(aR aC:Option Addr)(cR bR cC bC:Nat)(hI:RM w gp gz cz gl M zs H n kept gone fs aR aC cR bR cC bC)(t:Nat)(ht:t<5)(wX:World)(a1:Option Addr)(c1:Nat)(l:List BP)(hl:l.length<=700000)(he:Gm w wX gp w.heap.size (w.heap.size+1) a1 c1 l):Calls prog (Ff t) #[GO w.heap.size,.pointer (some ⟨w.heap.size+1,0,none⟩)] wX (Dr w.heap.size w.heap.size a1 (l++IC zs H n kept gone fs t) wX):=by
 obtain⟨hP,hK,hzr,hrt,c4,hrR,hfl,hF,c3,hrC⟩:=hI;match t,ht with
 | 0,_=>exact UG w gp gz cz gl M w.heap.size (w.heap.size+1) c1 a1 l zs H kept fs wX hzr hl hP hK he
 | 1,_=>exact Tv w gp gz cz gl M w.heap.size (w.heap.size+1) c1 a1 l zs H kept fs wX hzr hl hP hK he
 | 2,_=>exact TU w gp w.heap.size (w.heap.size+1) c1 cR bR a1 aR l (Dj gone n) wX hl hrt hP.lt c4 hrR he
 | 3,_=>exact Tc w gp gz cz gl M w.heap.size (w.heap.size+1) c1 cC bC a1 aC l zs H kept fs wX hK.len hl hfl hP hK.pl hF c3 hrC he
 | 4,_=>exact UT w gp gz cz gl M w.heap.size (w.heap.size+1) c1 a1 l zs H kept fs wX hzr hl hP hK he
theorem VB(t:Nat)(ht:t<5)(a b:Value)(wX:World):(callFunc (Ff t) #[a,b]).run prog wX=.ok (.enter (Ff t) #[a,b]) wX:=by
 rcases(show t=0\/t=1\/t=2\/t=3\/t=4 by omega) with rfl|rfl|rfl|rfl|rfl<;>kernel_rfl
theorem Uv{t:Nat}{l:List BP}(ht:t≠2)(h:l≠[]):Ee t l=l++[DH]:=by unfold Ee;rw[if_neg ht,EG h]
theorem Vw{t:Nat}{l:List BP}(h:l=[]):Ee t l=[]:=by unfold Ee;rw[h];split<;>rfl
theorem US(l:List BP):Ee 2 l=l:=rfl
theorem Pm(w:World)(gp gz cz gl M:Nat)(zs:List Int)(H:Nat->Ht)(n:Nat)(kept gone fs:List P3)(aR aC:Option Addr)(cR bR cC bC:Nat)(hI:RM w gp gz cz gl M zs H n kept gone fs aR aC cR bR cC bC):Calls prog 86 #[.pointer (some ⟨gp,0,none⟩)] w fun r w'=>∃a c,r=.returned (.slice a (JF zs H n kept gone fs 5).length c)/\A8 BW w' w.heap.size (.slice a (JF zs H n kept gone fs 5).length c) (JF zs H n kept gone fs 5)/\Bl w w':=by
 have hpa:=TH gp (w.alloc (.cells #[.slice none 0 0] 25));have hsz:(w.alloc (.cells #[.slice none 0 0] 25)).heap.size=w.heap.size+1:=by simp
 rw[hsz] at hpa;obtain⟨wk,hwk⟩:∃wk,wk=((w.alloc (.cells #[.slice none 0 0] 25)).alloc (.cells #[.pointer (some ⟨gp,0,none⟩)] 157)).alloc (.cells #[.func (.func 184) #[] #[.pointer (some ⟨w.heap.size+1,0,none⟩)],.bool true,.func (.func 188) #[] #[.pointer (some ⟨w.heap.size+1,0,none⟩)],.bool true,.func (.func 191) #[] #[.pointer (some ⟨w.heap.size+1,0,none⟩)],.bool false,.func (.func 192) #[] #[.pointer (some ⟨w.heap.size+1,0,none⟩)],.bool true,.func (.func 194) #[] #[.pointer (some ⟨w.heap.size+1,0,none⟩)],.bool true] 235):=⟨_,rfl⟩
 have hzk:wk.heap.size=w.heap.size+3:=by rw[hwk];simp
 have hbk:Bl w wk:=by rw[hwk];exact(AO.alloc (by simp) _).alloc (by simp;omega) _
 have HEM:Hid (Gm w wk gp w.heap.size (w.heap.size+1) none 0 []):=A9 <| by
  refine⟨⟨by omega,by rw[hwk];simp[go_sem],by rw[hwk];simp[go_sem],⟨by simp[AK],.inl ⟨rfl,rfl⟩⟩,by simp[oB,Value.ownBlock],by omega⟩,hbk,by rw[hwk];simp[go_sem],by omega,by omega,by simp[oB,Value.ownBlock],Nat.le_refl _⟩
 have HC:Hid (∀t,t<5->wk.cell? ⟨w.heap.size+2,t*2,none⟩=some (.func (.func (Ff t)) #[] #[.pointer (some ⟨w.heap.size+1,0,none⟩)])/\wk.cell? ⟨w.heap.size+2,t*2+1,none⟩=some (.bool (decide (t≠2)))):=A9 <| fun t ht=>by
  have hk:wk.heap[w.heap.size+2]?=some (.cells #[.func (.func 184) #[] #[.pointer (some ⟨w.heap.size+1,0,none⟩)],.bool true,.func (.func 188) #[] #[.pointer (some ⟨w.heap.size+1,0,none⟩)],.bool true,.func (.func 191) #[] #[.pointer (some ⟨w.heap.size+1,0,none⟩)],.bool false,.func (.func 192) #[] #[.pointer (some ⟨w.heap.size+1,0,none⟩)],.bool true,.func (.func 194) #[] #[.pointer (some ⟨w.heap.size+1,0,none⟩)],.bool true] 235):=by
   rw[hwk];have:=heap_alloc_new ((w.alloc (.cells #[.slice none 0 0] 25)).alloc (.cells #[.pointer (some ⟨gp,0,none⟩)] 157)) (.cells #[.func (.func 184) #[] #[.pointer (some ⟨w.heap.size+1,0,none⟩)],.bool true,.func (.func 188) #[] #[.pointer (some ⟨w.heap.size+1,0,none⟩)],.bool true,.func (.func 191) #[] #[.pointer (some ⟨w.heap.size+1,0,none⟩)],.bool false,.func (.func 192) #[] #[.pointer (some ⟨w.heap.size+1,0,none⟩)],.bool true,.func (.func 194) #[] #[.pointer (some ⟨w.heap.size+1,0,none⟩)],.bool true] 235);simpa using this
  unfold World.cell?;rw[hk];match t,ht with
  | 0,_=>exact⟨rfl,rfl⟩
  | 1,_=>exact⟨rfl,rfl⟩
  | 2,_=>exact⟨rfl,rfl⟩
  | 3,_=>exact⟨rfl,rfl⟩
  | 4,_=>exact⟨rfl,rfl⟩
 have HPA:Hid (∀t,t<5->∀wX a1 c1 (l:List BP),l.length<=700000->Gm w wX gp w.heap.size (w.heap.size+1) a1 c1 l->Calls prog (Ff t) #[GO w.heap.size,.pointer (some ⟨w.heap.size+1,0,none⟩)] wX (Dr w.heap.size w.heap.size a1 (l++IC zs H n kept gone fs t) wX)):=fun t ht wX a1 c1 l hl he=>VO w gp gz cz gl M zs H n kept gone fs aR aC cR bR cC bC hI t ht wX a1 c1 l hl he
 have HRUN:Hid (∀t,t<5->∀(a b:Value) (wX:World),(callFunc (Ff t) #[a,b]).run prog wX=.ok (.enter (Ff t) #[a,b]) wX):=VB;have HAL:Hid (∀t,(JF zs H n kept gone fs t).length<=t*20001):=LI zs H n kept gone fs hI.rt hI.fl;have HPL:Hid (∀t,(IC zs H n kept gone fs t).length<=20000):=Mq zs H n kept gone fs hI.rt hI.fl;have HAS:Hid (∀t,JF zs H n kept gone fs (t+1)=JF zs H n kept gone fs t++Ee t (IC zs H n kept gone fs t)):=fun t=>rfl
 have HA0:Hid (JF zs H n kept gone fs 0=[]):=rfl;have N3:w.heap.size+2<wk.heap.size:=by omega
 generalize JF zs H n kept gone fs=XA at *;generalize IC zs H n kept gone fs=XP at *;have HWK:=A5 hwk;clear hI hwk hzk hbk hsz;go_enter func86,ntmps86
 go_wp2_with fail
 refine hpa.mono ?_;rintro r w1 ⟨rfl,hw1⟩;have hw2:wk=w1:=HWK.out.trans hw1.symm;clear hpa hw1 HWK;subst hw2;go_wp2_with fail
 go_loopw [12] (fun iv wr=>∃t:Nat,t<=5/\iv=.int .i64 t/\CG w wk wr gp w.heap.size (w.heap.size+1) none (XA t)) (fun iv _=>5-(intOf iv).toNat)
 case atStart=>exact⟨0,Nat.zero_le _,rfl,by rw[HA0.out];exact CG.start HEM.out AH⟩
 case round =>
  obtain⟨t,ht5,rfl,a1,c1,he,ht,hn⟩:=hrel;by_cases hlt:t<5
  ·have hp2:¬(w.heap.size+2=w.heap.size\/oB none=some (w.heap.size+2)):=fun hh=>by
    rcases hh with e|e
    ·omega
    ·cases e
   have bp:=ht.block (w.heap.size+2) N3 hp2;obtain⟨x0,x1⟩:=HC.out t hlt;have y0:wr.cell? ⟨w.heap.size+2,t*2,none⟩=some (.func (.func (Ff t)) #[] #[.pointer (some ⟨w.heap.size+1,0,none⟩)]):=(F2 bp).trans x0;have y1:wr.cell? ⟨w.heap.size+2,t*2+1,none⟩=some (.bool (decide (t≠2))):=(F2 bp).trans x1;have o0:=he.ops.cell;have hol:=he.ops.lt;have hal:=HAL.out t;have hpl:=HPL.out t;(obtain⟨sd,hsd⟩:∃sd,decide (t≠2)=sd:=⟨_,rfl⟩);rw[hsd] at y1;have HSD:=A5 hsd;(obtain⟨L,hL⟩:∃L,XA t=L:=⟨_,rfl⟩);(obtain⟨X,hX⟩:∃X,XP t=X:=⟨_,rfl⟩);(have HSU:Hid (XA (t+1)=L++Ee t X):=A9 <| by rw[HAS.out,hL,hX]);rw[hL] at o0 hal he;rw[hX] at hpl;(obtain⟨wz,hwz⟩:∃wz,wz=wr.alloc (.cells #[.func (.func (Ff t)) #[] #[.pointer (some ⟨w.heap.size+1,0,none⟩)],.bool sd] 235):=⟨_,rfl⟩);(have hbz:Bl wr wz:=by rw[hwz];exact AO);(have z1:wz.cell? ⟨wr.heap.size,1,none⟩=some (.bool sd):=by rw[hwz];simp[go_sem]);(have N4:wr.heap.size<wz.heap.size:=by rw[hwz];simp);have hez:=he.below hbz;have hpart:=HPA.out t hlt wz a1 c1 L (by omega) hez;have hrun:=HRUN.out t hlt;rw[hX] at hpart;generalize Ff t=PF at *;have HE:=A5 hez;have HT:Hid (BF (fun k=>k=w.heap.size\/oB none=some k) wk wz):=ht.then (BF.of_below (S:=fun _=>False) hbz) (fun k _ h=>h.elim);have HN:=A5 hn;have HNZ:Hid (¬(wr.heap.size=w.heap.size\/oB a1=some wr.heap.size)):=A9 <| fun hh=>by
    rcases hh with e|e
    ·omega
    ·have:=(he.ops.own _ e).2;omega
   (have L1:(0:Int)<=(t:Int):=by omega);(have L2:(t:Int)<5:=by omega);have HWZ:=A5 hwz;clear he ht hn bp x0 x1 hsd hL hX hwz hbz hez hp2;unfold GO at hpart;(go_wp2_with fail);rw[<- HWZ.out];refine hpart.mono ?_;rintro r w2 hp;have hbl:w2.heap[wr.heap.size]?=wz.heap[wr.heap.size]?:=by
    obtain⟨_,a',c',_,h2,_⟩:=hp;exact h2.block _ N4 HNZ.out
   obtain⟨rfl,a2,c2,he2,ht2,hn2⟩:=CG.put HE.out HT.out HN.out hp;have q1:w2.cell? ⟨wr.heap.size,1,none⟩=some (.bool sd):=(F2 hbl).trans z1;(obtain⟨L3,hL3⟩:∃L3,L++X=L3:=⟨_,rfl⟩);rw[hL3] at he2;have o2:=he2.ops.cell;(have hlen3:L3.length=L.length+X.length:=by rw[<- hL3,List.length_append]);have HE2:=A5 he2;have HT2:=A5 ht2;have HN2:=A5 hn2;have HL3:=A5 hL3;clear hpart hp hbl he2 ht2 hn2 hL3 hrun;cases sd
   ·have ht2':t=2:=by
     have:=of_decide_eq_false HSD.out;omega
    (have HQ:Hid (XA (t+1)=L3):=A9 <| by rw[HSU.out,ht2',US,HL3.out]);clear ht2';(go_wp2_with fail);go_roundw;(case rel=>exact⟨t+1,by omega,by go_num,by rw[HQ.out];exact⟨a2,c2,HE2.out,HT2.out,HN2.out⟩⟩);case measure=>simp[intOf];omega
   ·have ht2':t≠2:=of_decide_eq_true HSD.out;by_cases hx:X=[]
    ·(have HQ:Hid (XA (t+1)=L3):=A9 <| by rw[HSU.out,Vw hx,List.append_nil,<- HL3.out,hx,List.append_nil]);(have hle:L3.length=L.length:=by rw[hlen3,hx];rfl);(have dl3:¬(L.length<L3.length):=by omega);clear hx hle hlen3;(go_wp2_with fail);go_roundw;(case rel=>exact⟨t+1,by omega,by go_num,by rw[HQ.out];exact⟨a2,c2,HE2.out,HT2.out,HN2.out⟩⟩);case measure=>simp[intOf];omega
    ·(have HQ:Hid (XA (t+1)=L3++[DH]):=A9 <| by rw[HSU.out,Uv ht2' hx,<- List.append_assoc,HL3.out]);have hxl:0<X.length:=List.length_pos_iff.2 hx;(have dl3:L.length<L3.length:=by omega);have hput:=Hb w.heap.size w.heap.size c2 a2 L3 ⟨2,0,0,0⟩ w2 (by omega) HE2.out.ops;clear hx hxl hlen3;dsimp only at hput;(go_wp2_with fail);refine hput.mono ?_;rintro r w3 hp3;obtain⟨rfl,hr3⟩:=CG.put HE2.out HT2.out HN2.out hp3;clear hput hp3;(go_wp2_with fail);go_roundw;(case rel=>exact⟨t+1,by omega,by go_num,by rw[HQ.out];exact hr3⟩);case measure=>simp[intOf];omega
  ·(have et:t=5:=by omega);subst et;have o0:=he.ops.cell;have HE:=A5 he;clear he ht hn;(go_wp2_with fail);go_ret;exact⟨a1,c1,rfl,HE.out.ops.row,HE.out.pl⟩
end Go.Proofs.YtnmhkgmmpkjjeaaGreat
