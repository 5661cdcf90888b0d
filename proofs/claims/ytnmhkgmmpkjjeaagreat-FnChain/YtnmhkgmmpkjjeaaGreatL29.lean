import Derived.Test.YtnmhkgmmpkjjeaaGreatL28
import Derived.Laws.EntriesVeiled
namespace Go.Proofs.YtnmhkgmmpkjjeaaGreat
open Go.ChangeShapes Go.WideShapes Go.ChangeAt Go.RowKit
set_option linter.unusedVariables false
set_option maxRecDepth 100000
attribute [local go_sem ↓] Go.wp_at_zero Go.wp_at_succ
def On (wp:World) (G B:Nat) (zs:List Int) (H:Nat->Ht) (all:List P3) (S:Nat->Prop) (es:List En) (w:World):Prop :=
 (∃a c,BH w G 0 B a c (BX (FD zs H all es) 4096)/\S=(fun k=>k=G\/oB a=some k))/\Below wp.heap.size wp w
theorem Vr (wp:World) (G B:Nat) (zs:List Int) (H:Nat->Ht) (all:List P3) (hzr:∀i,0<=zs.getD i 0/\zs.getD i 0<18446744073709551616) (hlo:wp.heap.size<=G) (hB:wp.heap.size<=B):IW 189 G zs H all wp (On wp G B zs H all):=by
 refine⟨fun a b w=>?_,?_,?_,?_,?_⟩
 ·kernel_rfl
 ·rintro S es e wX ⟨⟨a,c,ho,rfl⟩,hb⟩ ⟨lv,pg,ad,rfl,h1,h3,h4,h5⟩ hes;refine(Pz G B c a (FD zs H all es) (FD zs H all (es++[⟨lv,pg,ad⟩])) zs H all lv pg ad wX h1 h3 h4 (hzr _) (fun q=>?_) ho).mono ?_
  ·rw[Np];congr 2;dsimp only;rw[CT lv];by_cases hh:pg<=q/\q<pg+Aq lv
   ·rw[decide_eq_true hh,decide_eq_true (by omega)]
   ·rw[decide_eq_false hh,decide_eq_false (by omega)]
  rintro r w' ⟨rfl,a',c',h6,h7,h8⟩;refine⟨rfl,fun k=>k=G\/oB a'=some k,⟨⟨a',c',h6,rfl⟩,?_⟩,h7,?_⟩
  ·refine((Aj.of_below (S:=fun k=>wp.heap.size<=k) hb).then h7 (fun k hk hh=>?_)).below (fun k hk hh=>by omega);rcases hh with e|e
   ·omega
   ·have:=(ho.row.own k (by rw[CC];exact e)).1;omega
  ·intro k hk hh;rcases hh with e|e
   ·exact .inl e
   ·rcases h8 with e2|⟨j,e2,hj⟩
    ·exact .inr (by rw[<- e2];exact e)
    ·rw[e] at e2;simp only[Option.some.injEq] at e2;omega
 ·rintro S es wX wY ⟨⟨a,c,ho,rfl⟩,hb⟩ hX;exact⟨⟨a,c,ho.tch (Aj.of_below (S:=fun _=>False) hX) (fun f=>f) (fun _ _ f=>f),rfl⟩,hb.trans (hX.mono hb.size)⟩
 ·rintro S es wX ⟨_,hb⟩;exact hb
 ·rintro S es wX ⟨⟨a,c,ho,rfl⟩,hb⟩ k hk;rcases hk with e|e
  ·rw[e];exact ho.lt
  ·exact(ho.row.own k (by rw[CC];exact e)).2
def Uk (r:Nat×Nat):Ay:=⟨3,r.1,r.2,0⟩
theorem UQ (mk:Nat->Bool):Av mk=(BV mk 4096 4096).map Uk:=rfl
theorem RN {w:World} {b g c n:Nat} {xs:List (Nat×Nat)} (h:A6 CJ w b (.slice (some ⟨g,0,none⟩) n c) xs) (i:Nat) (hi:i<xs.length):g<w.heap.size/\w.cell? ⟨g,i*2,none⟩=some (.int .i64 ((AI CJ xs i).1:Nat))/\w.cell? ⟨g,i*2+1,none⟩=some (.int .i64 ((AI CJ xs i).2:Nat)):=by
 obtain⟨hB,hc,hm,f,hr,hf⟩:=N7 h;obtain⟨a0,a1⟩:=hf i hi;exact⟨hr.lt,by rw[hr.cell (i:=i*2) (by omega),a0],by rw[hr.cell (i:=i*2+1) (by omega),a1]⟩
theorem PX (xs:List (Nat×Nat)) (i:Nat) (hi:i<xs.length):(xs.take (i+1)).map Uk=(xs.take i).map Uk++[Uk (AI CJ xs i)]:=by
 rw[DD CJ xs i hi,List.map_append];rfl
theorem Lw (mk:Nat->Bool) (n:Nat):(BV mk n n).length<=n:=by
 have h:∀k,(BV mk n k).length<=k:=by
  intro k;induction k with
  | zero=>exact Nat.zero_le _
  | succ k ih =>
   rw[Fo,List.length_append];split
   ·simp;omega
   ·simp;omega
 exact h n
theorem Ur (zs:List Int) (H:Nat->Ht) (all:List P3):BX (FD zs H all []) 4096=[]:=by
 unfold BX;have:(List.range 4096).filter (FD zs H all [])=[]:=by
  rw[List.filter_eq_nil_iff];intro a _ h;cases h
 rw[this];rfl
set_option maxHeartbeats 4000000 in
theorem TB (wp:World) (gp gz cz gl M OP PV c:Nat) (a:Option Addr) (l:List Ay) (zs:List Int) (H:Nat->Ht) (kept fs:List P3) (w:World) (hzr:∀i,0<=zs.getD i 0/\zs.getD i 0<18446744073709551616) (hl:l.length<=700000) (hP:IS wp gp gz cz gl M zs H (BG kept fs)) (hK:Ti zs H kept fs) (h:FX wp w gp OP PV a c l) : Calls Tryz.prog 188 #[FC OP,.pointer (some ⟨PV,0,none⟩)] w (DX OP wp.heap.size a (l++Av (FD zs H (kept++fs) (BW kept 4096))) w):=by
 obtain⟨wb,hwb⟩:∃wb,wb=w.alloc (.cells #[.slice none 0 0] 160):=⟨_,rfl⟩
 have hb0:Below w.heap.size w wb:=by rw[hwb];exact Ao
 have hwl:wp.heap.size<=w.heap.size:=h.pl.size;have hev:=Vr wp w.heap.size (w.heap.size+1) zs H (kept++fs) hzr hwl (by omega);have hset:BH wb w.heap.size 0 (w.heap.size+1) none 0 []:=by
  rw[hwb];exact⟨by simp,by simp[go_sem],by simp[go_sem],⟨by simp[AE],.inl ⟨rfl,rfl⟩⟩,by simp[oB,Value.ownBlock],by simp⟩
 have hst:On wp w.heap.size (w.heap.size+1) zs H (kept++fs) (fun k=>k=w.heap.size\/oB none=some k) [] wb:=by
  refine⟨⟨none,0,?_,rfl⟩,(h.below hb0).pl⟩;rw[Ur];exact hset
 have hek:=Fg hev hP hK _ wb hst;have p1:=h.pv;have hvl:=h.vlt;obtain⟨mk,hmk⟩:∃mk,FD zs H (kept++fs) (BW kept 4096)=mk:=⟨_,rfl⟩
 obtain⟨ns,hns⟩:∃ns,(List.range 4096).filter mk=ns:=⟨_,rfl⟩
 have hn1:ns.length<=4096:=by
  rw[<- hns];exact Nat.le_trans (List.length_filter_le _ _) (by rw[List.length_range];omega)
 have hn2:∀x∈ns,x<4096:=fun x hx=>by
  rw[<- hns] at hx;exact List.mem_range.1 (List.mem_filter.1 hx).1
 have hrq:ns.foldl Br []=BV mk 4096 4096:=by rw[<- hns];exact Qo mk 4096
 have HNM:Hid (BX mk 4096=ns.map (fun k=>((k:Nat):Int))):=A3 <| by rw[<- hns];rfl
 have hrl:(ns.foldl Br []).length<=4096:=by rw[hrq];exact Lw mk 4096
 have HLQ:Hid (l++Av mk=l++(ns.foldl Br []).map Uk):=A3 <| by rw[hrq];rfl
 have HE:Hid (∀r w',F7 (On wp w.heap.size (w.heap.size+1) zs H (kept++fs)) (fun k=>k=w.heap.size\/oB none=some k) (BW kept 4096) wb r w'->r=.returned (.tuple #[])/\(∃a1 c1,w'.cell? ⟨w.heap.size,0,none⟩=some (.slice a1 ns.length c1)/\A6 Ai w' (w.heap.size+1) (.slice a1 (ns.map (fun k=>((k:Nat):Int))).length c1) (ns.map (fun k=>((k:Nat):Int))))/\Below w.heap.size w w'/\w.heap.size<w'.heap.size):=A3 <| by
  rintro r w' ⟨rfl,S',⟨⟨a1,c1,ho,rfl⟩,hb⟩,ht,hs⟩;rw[hmk,HNM.out] at ho;have hl9:(ns.map (fun k=>((k:Nat):Int))).length=ns.length:=List.length_map _;refine⟨rfl,⟨a1,c1,by rw[<- hl9];exact ho.cell,ho.row⟩,?_,ho.lt⟩;refine((Aj.of_below (S:=fun k=>w.heap.size<=k) hb0).then ht (fun k hk hh=>?_)).below (fun k hk hh=>by omega);rcases hh with e|e
  ·omega
  ·cases e
 have HEM:Hid (FX wp w gp OP PV a c l):=h;rw[hmk,HLQ.out];have HRO:Hid (∀(w1:World) a1 c1,A6 Ai w1 (w.heap.size+1) (.slice a1 (ns.map (fun k=>((k:Nat):Int))).length c1) (ns.map (fun k=>((k:Nat):Int)))->Calls Tryz.prog 190 #[.slice a1 ns.length c1] w1 fun r w'=>∃a' c',r=.returned (.slice a' (ns.foldl Br []).length c')/\A6 CJ w' w1.heap.size (.slice a' (ns.foldl Br []).length c') (ns.foldl Br [])/\Below w1.heap.size w1 w'):=fun w1 a1 c1 hr=>Py a1 c1 _ ns w1 hn1 hn2 hr
 clear HLQ hrq;generalize ns.foldl Br []=RS at hrl HRO ⊢;have HWB:Hid (wb=_):=hwb;clear hwb hb0 hev hset hst h hP hK hmk hns hn2 hwl HNM;unfold FC;go_enter Tryz.func188,Tryz.ntmps188
 go_wp2_with fail
 rw[<- HWB.out];refine hek.mono ?_;rintro r w1 hv;obtain⟨rfl,⟨a1,c1,k0,hrow⟩,hb1,hlt1⟩:=HE.out _ _ hv;have hro:=HRO.out w1 a1 c1 hrow;have HB1:Hid (Below w.heap.size w w1):=hb1;clear hek hv hrow hb1 HRO HE;go_wp2_with fail
 refine hro.mono ?_;rintro r w2 ⟨a2,c2,rfl,hr2,hb2⟩;have HB2:Hid (Below w.heap.size w w2):=HB1.out.trans (hb2.mono HB1.out.size);have hw12:=HB1.out.size;have hop:=HEM.out.ops.lt;have hoa:=HEM.out.ops.own
 have HRR:Hid (∀wX,Aj (fun k=>k=OP\/oB a=some k) w2 wX->A6 CJ wX w1.heap.size (.slice a2 RS.length c2) RS):=A3 <| fun wX hX=>hr2.tch hX (fun k hk hh=>by
  have h9:=(hr2.own k (by rw[CC];exact hk)).1
  rcases hh with e|e
  ·omega
  ·have:=(hoa k e).2;omega)
 have HST:Hid (Bi wp w2 w2 gp OP PV a (l++(RS.take 0).map Uk)):=A3 <| by
  rw[List.take_zero,List.map_nil,List.append_nil];exact Bi.start (HEM.out.below HB2.out) (Below.refl _ _)
 clear hro hr2 hb2 k0 hoa;go_wp2_with fail
 go_loopw [13] (fun iv wr=>∃i:Nat,i<=RS.length/\iv=.int .i64 i/\Bi wp w2 wr gp OP PV a (l++(RS.take i).map Uk)) (fun iv _=>RS.length-(intOf iv).toNat)
 case atStart=>exact⟨0,Nat.zero_le _,rfl,HST.out⟩
 case round =>
  obtain⟨i,hi,rfl,a3,c3,he,ht,hn⟩:=hrel;by_cases hlt:i<RS.length
  ·have hrw:=HRR.out wr ht;obtain⟨g,rfl⟩:∃g,a2=some ⟨g,0,none⟩:=by
    obtain⟨a',c',e,h1⟩:=hrw.form;obtain⟨g,N,f,e2,_⟩:=h1 (by omega);simp only[Value.slice.injEq] at e;exact⟨g,by rw[e.1,e2]⟩
   obtain⟨hgl,x0,x1⟩:=RN hrw i hlt;(obtain⟨ll,hll⟩:∃ll,l++(RS.take i).map Uk=ll:=⟨_,rfl⟩);(have hlen:ll.length<=720000:=by rw[<- hll,List.length_append,List.length_map,List.length_take];omega);rw[hll] at he;(have HL:Hid (l++(RS.take (i+1)).map Uk=ll++[⟨3,((AI CJ RS i).1:Nat),((AI CJ RS i).2:Nat),0⟩]):=A3 <| by rw[PX RS i hlt,<- List.append_assoc,hll];rfl);generalize (AI CJ RS i).1=f at x0 HL;generalize (AI CJ RS i).2=k at x1 HL;(have HPUT:Hid (∀wX,Below wr.heap.size wr wX->Calls Tryz.prog 146 #[.agg #[.int .i64 3,.int .i64 f,.int .i64 k,.int .u64 0],.pointer (some ⟨OP,0,none⟩)] wX (DX OP wp.heap.size a3 (ll++[⟨3,f,k,0⟩]) wX)):=fun wX hX=>GS OP wp.heap.size c3 a3 ll ⟨3,f,k,0⟩ wX (by omega) (he.ops.below hX));have hput:=HPUT.out (wr.alloc (.cells #[.int .i64 f,.int .i64 k] 279)) Ao;(have L1:(0:Int)<=(i:Int):=by omega);(have L2:(i:Int)<(RS.length:Int):=by omega);have HEE:Hid _:=he;have HT:Hid _:=ht;have HN:Hid (∀k,oB a3=some k->oB a=some k\/w2.heap.size<=k):=hn;clear he ht hn hrw hll HPUT;(go_wp2_with fail);refine hput.mono ?_;rintro r w4 hp;obtain⟨rfl,hr2⟩:=Bi.put HEE.out HT.out HN.out (DX.pre (c:=c3) (l:=ll) Ao hp);clear hput hp;(go_wp2_with fail);go_roundw;(case rel=>exact⟨i+1,by omega,by go_num,by rw[HL.out];exact hr2⟩);case measure=>simp[intOf];omega
  ·(have ei:i=RS.length:=by omega);subst ei;rw[List.take_length] at he;(go_wp2_with fail);refine bodyPost_end (v:=.tuple #[]) (by simp[results,Tryz.results188,go_sem]) rfl ?_;exact DX.pre (c:=c) (l:=l) HB2.out (Bi.fin ⟨a3,c3,he,ht,hn⟩)
set_option maxHeartbeats 1000000 in
theorem R6 (gp:Nat) (w:World) : Calls Tryz.prog 147 #[.pointer (some ⟨gp,0,none⟩)] w fun r w'=>r=.returned (.slice (some ⟨w.heap.size+1,0,none⟩) 5 5)/\w'=(w.alloc (.cells #[.pointer (some ⟨gp,0,none⟩)] 157)).alloc (.cells #[.func (.func 184) #[] #[.pointer (some ⟨w.heap.size,0,none⟩)],.bool true,.func (.func 188) #[] #[.pointer (some ⟨w.heap.size,0,none⟩)],.bool true,.func (.func 191) #[] #[.pointer (some ⟨w.heap.size,0,none⟩)],.bool false,.func (.func 192) #[] #[.pointer (some ⟨w.heap.size,0,none⟩)],.bool true,.func (.func 194) #[] #[.pointer (some ⟨w.heap.size,0,none⟩)],.bool true] 235):=by
 go_enter Tryz.func147,Tryz.ntmps147
 go_wp2_with fail
 go_ret;exact⟨rfl,rfl⟩
structure Pe (w:World) (gp gz cz gl M:Nat) (zs:List Int) (H:Nat->Ht) (n:Nat) (kept gone fs:List P3) (aR aC:Option Addr) (cR bR cC bC:Nat):Prop where
 P:IS w gp gz cz gl M zs H (BG kept fs)
 K:Ti zs H kept fs
 zr:∀i,0<=zs.getD i 0/\zs.getD i 0<18446744073709551616
 rt:(DR gone n).length<=1000
 c4:w.cell? ⟨gp,4,none⟩=some (.slice aR (DR gone n).length cR)
 rR:A6 Ai w bR (.slice aR (DR gone n).length cR) (DR gone n)
 fl:fs.length<=1000
 F:∀q∈fs,∃F lv pg:Nat,q=⟨F,lv,pg⟩/\1<=lv/\lv<=3/\pg+Hj lv<=4096/\F*16+16<=zs.length
 c3:w.cell? ⟨gp,3,none⟩=some (.slice aC fs.length cC)
 rC:A6 FA w bC (.slice aC fs.length cC) fs
def Gs (zs:List Int) (H:Nat->Ht) (n:Nat) (kept gone fs:List P3):Nat->List Ay
 | 0=>AR zs H (kept++fs) (BW kept 4096)
 | 1=>Av (FD zs H (kept++fs) (BW kept 4096))
 | 2=>(DR gone n).map S9
 | 3=>AK H (kept++fs) fs
 | _=>AZ zs H (kept++fs) (BW kept 4096)
def EB (t:Nat) (l:List Ay):List Ay:=if t=2 then l else BB l
def Gy (zs:List Int) (H:Nat->Ht) (n:Nat) (kept gone fs:List P3):Nat->List Ay
 | 0=>[]
 | t+1=>Gy zs H n kept gone fs t++EB t (Gs zs H n kept gone fs t)
theorem Lr (zs:List Int) (H:Nat->Ht) (n:Nat) (kept gone fs:List P3) (hr:(DR gone n).length<=1000) (hf:fs.length<=1000) (t:Nat):(Gs zs H n kept gone fs t).length<=20000:=by
 have h1:=IC kept 4096;match t with
 | 0=>exact Nat.le_trans (Dh zs H (kept++fs) (BW kept 4096)) (by omega)
 | 1 =>
  show (Av (FD zs H (kept++fs) (BW kept 4096))).length<=20000;rw[UQ,List.length_map];have:=Lw (FD zs H (kept++fs) (BW kept 4096)) 4096;omega
 | 2=>show ((DR gone n).map S9).length<=20000;rw[List.length_map];omega
 | 3=>show (AK H (kept++fs) fs).length<=20000;rw[DJ];omega
 | t+4=>exact Nat.le_trans (Do zs H (kept++fs) (BW kept 4096)) (by omega)
theorem RQ (t:Nat) (l:List Ay):(EB t l).length<=l.length+1:=by
 unfold EB BB;split
 ·omega
 ·split
  ·exact Nat.zero_le _
  ·simp
theorem K5 (zs:List Int) (H:Nat->Ht) (n:Nat) (kept gone fs:List P3) (hr:(DR gone n).length<=1000) (hf:fs.length<=1000):∀t,(Gy zs H n kept gone fs t).length<=t*20001
 | 0=>Nat.zero_le _
 | t+1=>by
  have h1:=K5 zs H n kept gone fs hr hf t;have h2:=Lr zs H n kept gone fs hr hf t;have h3:=RQ t (Gs zs H n kept gone fs t);show (Gy zs H n kept gone fs t++EB t (Gs zs H n kept gone fs t)).length<=_;rw[List.length_append];omega
theorem Tr (zs:List Int) (H:Nat->Ht) (n:Nat) (kept gone fs:List P3):Gy zs H n kept gone fs 5=BB (AR zs H (kept++fs) (BW kept 4096))++(BB (Av (FD zs H (kept++fs) (BW kept 4096)))++(Ah n gone++(BB (AK H (kept++fs) fs)++BB (AZ zs H (kept++fs) (BW kept 4096))))):=by
 rw[Nl];show ((((([]++EB 0 _)++EB 1 _)++EB 2 _)++EB 3 _)++EB 4 _)=_;unfold EB;simp[Gs]
def Es:Nat->Nat
 | 0=>184
 | 1=>188
 | 2=>191
 | 3=>192
 | _=>194
theorem TJ (w:World) (gp gz cz gl M:Nat) (zs:List Int) (H:Nat->Ht) (n:Nat) (kept gone fs:List P3) (aR aC:Option Addr) (cR bR cC bC:Nat) (hI:Pe w gp gz cz gl M zs H n kept gone fs aR aC cR bR cC bC) (t:Nat) (ht:t<5) (wX:World) (a1:Option Addr) (c1:Nat) (l:List Ay) (hl:l.length<=700000) (he:FX w wX gp w.heap.size (w.heap.size+1) a1 c1 l) : Calls Tryz.prog (Es t) #[FC w.heap.size,.pointer (some ⟨w.heap.size+1,0,none⟩)] wX (DX w.heap.size w.heap.size a1 (l++Gs zs H n kept gone fs t) wX):=by
 obtain⟨hP,hK,hzr,hrt,c4,hrR,hfl,hF,c3,hrC⟩:=hI;match t,ht with
 | 0,_=>exact TF w gp gz cz gl M w.heap.size (w.heap.size+1) c1 a1 l zs H kept fs wX hzr hl hP hK he
 | 1,_=>exact TB w gp gz cz gl M w.heap.size (w.heap.size+1) c1 a1 l zs H kept fs wX hzr hl hP hK he
 | 2,_=>exact RP w gp w.heap.size (w.heap.size+1) c1 cR bR a1 aR l (DR gone n) wX hl hrt hP.lt c4 hrR he
 | 3,_=>exact Rs w gp gz cz gl M w.heap.size (w.heap.size+1) c1 cC bC a1 aC l zs H kept fs wX hK.len hl hfl hP hK.pl hF c3 hrC he
 | 4,_=>exact SW w gp gz cz gl M w.heap.size (w.heap.size+1) c1 a1 l zs H kept fs wX hzr hl hP hK he
theorem Th (t:Nat) (ht:t<5) (a b:Value) (wX:World):(callFunc (Es t) #[a,b]).run Tryz.prog wX=.ok (.enter (Es t) #[a,b]) wX:=by
 rcases(show t=0\/t=1\/t=2\/t=3\/t=4 by omega) with rfl|rfl|rfl|rfl|rfl<;>kernel_rfl
theorem Tq {t:Nat} {l:List Ay} (ht:t≠2) (h:l≠[]):EB t l=l++[Ci]:=by unfold EB;rw[if_neg ht,Dq h]
theorem U7 {t:Nat} {l:List Ay} (h:l=[]):EB t l=[]:=by unfold EB;rw[h];split<;>rfl
theorem TS (l:List Ay):EB 2 l=l:=rfl
set_option maxHeartbeats 4000000 in
theorem Nd (w:World) (gp gz cz gl M:Nat) (zs:List Int) (H:Nat->Ht) (n:Nat) (kept gone fs:List P3) (aR aC:Option Addr) (cR bR cC bC:Nat) (hI:Pe w gp gz cz gl M zs H n kept gone fs aR aC cR bR cC bC) : Calls Tryz.prog 86 #[.pointer (some ⟨gp,0,none⟩)] w fun r w'=>∃a c,r=.returned (.slice a (Gy zs H n kept gone fs 5).length c)/\A6 Az w' w.heap.size (.slice a (Gy zs H n kept gone fs 5).length c) (Gy zs H n kept gone fs 5)/\Below w.heap.size w w':=by
 have hpa:=R6 gp (w.alloc (.cells #[.slice none 0 0] 25));have hsz:(w.alloc (.cells #[.slice none 0 0] 25)).heap.size=w.heap.size+1:=by simp
 rw[hsz] at hpa;obtain⟨wk,hwk⟩:∃wk,wk=((w.alloc (.cells #[.slice none 0 0] 25)).alloc (.cells #[.pointer (some ⟨gp,0,none⟩)] 157)).alloc (.cells #[.func (.func 184) #[] #[.pointer (some ⟨w.heap.size+1,0,none⟩)],.bool true,.func (.func 188) #[] #[.pointer (some ⟨w.heap.size+1,0,none⟩)],.bool true,.func (.func 191) #[] #[.pointer (some ⟨w.heap.size+1,0,none⟩)],.bool false,.func (.func 192) #[] #[.pointer (some ⟨w.heap.size+1,0,none⟩)],.bool true,.func (.func 194) #[] #[.pointer (some ⟨w.heap.size+1,0,none⟩)],.bool true] 235):=⟨_,rfl⟩
 have hzk:wk.heap.size=w.heap.size+3:=by rw[hwk];simp
 have hbk:Below w.heap.size w wk:=by rw[hwk];exact(((Below.refl _ _).alloc (Nat.le_refl _) _).alloc (by simp) _).alloc (by simp;omega) _
 have HEM:Hid (FX w wk gp w.heap.size (w.heap.size+1) none 0 []):=A3 <| by
  refine⟨⟨by omega,by rw[hwk];simp[go_sem],by rw[hwk];simp[go_sem],⟨by simp[AE],.inl ⟨rfl,rfl⟩⟩,by simp[oB,Value.ownBlock],by omega⟩,hbk,by rw[hwk];simp[go_sem],by omega,by omega,by simp[oB,Value.ownBlock],Nat.le_refl _⟩
 have HC:Hid (∀t,t<5->wk.cell? ⟨w.heap.size+2,t*2,none⟩=some (.func (.func (Es t)) #[] #[.pointer (some ⟨w.heap.size+1,0,none⟩)])/\wk.cell? ⟨w.heap.size+2,t*2+1,none⟩=some (.bool (decide (t≠2)))):=A3 <| fun t ht=>by
  have hk:wk.heap[w.heap.size+2]?=some (.cells #[.func (.func 184) #[] #[.pointer (some ⟨w.heap.size+1,0,none⟩)],.bool true,.func (.func 188) #[] #[.pointer (some ⟨w.heap.size+1,0,none⟩)],.bool true,.func (.func 191) #[] #[.pointer (some ⟨w.heap.size+1,0,none⟩)],.bool false,.func (.func 192) #[] #[.pointer (some ⟨w.heap.size+1,0,none⟩)],.bool true,.func (.func 194) #[] #[.pointer (some ⟨w.heap.size+1,0,none⟩)],.bool true] 235):=by
   rw[hwk];have:=heap_alloc_new ((w.alloc (.cells #[.slice none 0 0] 25)).alloc (.cells #[.pointer (some ⟨gp,0,none⟩)] 157)) (.cells #[.func (.func 184) #[] #[.pointer (some ⟨w.heap.size+1,0,none⟩)],.bool true,.func (.func 188) #[] #[.pointer (some ⟨w.heap.size+1,0,none⟩)],.bool true,.func (.func 191) #[] #[.pointer (some ⟨w.heap.size+1,0,none⟩)],.bool false,.func (.func 192) #[] #[.pointer (some ⟨w.heap.size+1,0,none⟩)],.bool true,.func (.func 194) #[] #[.pointer (some ⟨w.heap.size+1,0,none⟩)],.bool true] 235);simpa using this
  unfold World.cell?;rw[hk];match t,ht with
  | 0,_=>exact⟨rfl,rfl⟩
  | 1,_=>exact⟨rfl,rfl⟩
  | 2,_=>exact⟨rfl,rfl⟩
  | 3,_=>exact⟨rfl,rfl⟩
  | 4,_=>exact⟨rfl,rfl⟩
 have HPA:Hid (∀t,t<5->∀wX a1 c1 (l:List Ay),l.length<=700000->FX w wX gp w.heap.size (w.heap.size+1) a1 c1 l->Calls Tryz.prog (Es t) #[FC w.heap.size,.pointer (some ⟨w.heap.size+1,0,none⟩)] wX (DX w.heap.size w.heap.size a1 (l++Gs zs H n kept gone fs t) wX)):=fun t ht wX a1 c1 l hl he=>TJ w gp gz cz gl M zs H n kept gone fs aR aC cR bR cC bC hI t ht wX a1 c1 l hl he
 have HRUN:Hid (∀t,t<5->∀(a b:Value) (wX:World),(callFunc (Es t) #[a,b]).run Tryz.prog wX=.ok (.enter (Es t) #[a,b]) wX):=Th;have HAL:Hid (∀t,(Gy zs H n kept gone fs t).length<=t*20001):=K5 zs H n kept gone fs hI.rt hI.fl;have HPL:Hid (∀t,(Gs zs H n kept gone fs t).length<=20000):=Lr zs H n kept gone fs hI.rt hI.fl;have HAS:Hid (∀t,Gy zs H n kept gone fs (t+1)=Gy zs H n kept gone fs t++EB t (Gs zs H n kept gone fs t)):=fun t=>rfl
 have HZK:Hid (wk.heap.size=w.heap.size+3):=hzk;have HBK:Hid (Below w.heap.size w wk):=hbk;have HA0:Hid (Gy zs H n kept gone fs 0=[]):=rfl;have N3:w.heap.size+2<wk.heap.size:=by omega
 generalize Gy zs H n kept gone fs=XA at *;generalize Gs zs H n kept gone fs=XP at *;have HWK:Hid (wk=_):=hwk;clear hI hwk hzk hbk hsz;go_enter Tryz.func86,Tryz.ntmps86
 go_wp2_with fail
 refine hpa.mono ?_;rintro r w1 ⟨rfl,hw1⟩;have hw2:wk=w1:=HWK.out.trans hw1.symm;clear hpa hw1 HWK;subst hw2;go_wp2_with fail
 go_loopw [12] (fun iv wr=>∃t:Nat,t<=5/\iv=.int .i64 t/\Bi w wk wr gp w.heap.size (w.heap.size+1) none (XA t)) (fun iv _=>5-(intOf iv).toNat)
 case atStart=>exact⟨0,Nat.zero_le _,rfl,by rw[HA0.out];exact Bi.start HEM.out (Below.refl _ _)⟩
 case round =>
  obtain⟨t,ht5,rfl,a1,c1,he,ht,hn⟩:=hrel;by_cases hlt:t<5
  ·have hp2:¬(w.heap.size+2=w.heap.size\/oB none=some (w.heap.size+2)):=fun hh=>by
    rcases hh with e|e
    ·omega
    ·cases e
   have bp:=ht.block (w.heap.size+2) N3 hp2;obtain⟨x0,x1⟩:=HC.out t hlt;have y0:wr.cell? ⟨w.heap.size+2,t*2,none⟩=some (.func (.func (Es t)) #[] #[.pointer (some ⟨w.heap.size+1,0,none⟩)]):=(Eg bp).trans x0;have y1:wr.cell? ⟨w.heap.size+2,t*2+1,none⟩=some (.bool (decide (t≠2))):=(Eg bp).trans x1;have o0:=he.ops.cell;have hol:=he.ops.lt;have hal:=HAL.out t;have hpl:=HPL.out t;(obtain⟨sd,hsd⟩:∃sd,decide (t≠2)=sd:=⟨_,rfl⟩);rw[hsd] at y1;have HSD:Hid (decide (t≠2)=sd):=hsd;(obtain⟨L,hL⟩:∃L,XA t=L:=⟨_,rfl⟩);(obtain⟨X,hX⟩:∃X,XP t=X:=⟨_,rfl⟩);(have HSU:Hid (XA (t+1)=L++EB t X):=A3 <| by rw[HAS.out,hL,hX]);rw[hL] at o0 hal he;rw[hX] at hpl;(obtain⟨wz,hwz⟩:∃wz,wz=wr.alloc (.cells #[.func (.func (Es t)) #[] #[.pointer (some ⟨w.heap.size+1,0,none⟩)],.bool sd] 235):=⟨_,rfl⟩);(have hbz:Below wr.heap.size wr wz:=by rw[hwz];exact Ao);(have z0:wz.cell? ⟨wr.heap.size,0,none⟩=some (.func (.func (Es t)) #[] #[.pointer (some ⟨w.heap.size+1,0,none⟩)]):=by rw[hwz];simp[go_sem]);(have z1:wz.cell? ⟨wr.heap.size,1,none⟩=some (.bool sd):=by rw[hwz];simp[go_sem]);(have N4:wr.heap.size<wz.heap.size:=by rw[hwz];simp);have hez:=he.below hbz;have hpart:=HPA.out t hlt wz a1 c1 L (by omega) hez;have hrun:=HRUN.out t hlt;rw[hX] at hpart;generalize Es t=PF at *;have HE:Hid _:=hez;have HT:Hid (Aj (fun k=>k=w.heap.size\/oB none=some k) wk wz):=ht.then (Aj.of_below (S:=fun _=>False) hbz) (fun k _ h=>h.elim);have HN:Hid (∀k,oB a1=some k->oB none=some k\/wk.heap.size<=k):=hn;have HNZ:Hid (¬(wr.heap.size=w.heap.size\/oB a1=some wr.heap.size)):=A3 <| fun hh=>by
    rcases hh with e|e
    ·omega
    ·have:=(he.ops.own _ e).2;omega
   have p0:=hez.ops.cell;(have L1:(0:Int)<=(t:Int):=by omega);(have L2:(t:Int)<5:=by omega);have HWZ:Hid (wz=_):=hwz;clear he ht hn bp x0 x1 hsd hL hX hwz hbz hez hp2;unfold FC at hpart;(go_wp2_with fail);rw[<- HWZ.out];refine hpart.mono ?_;rintro r w2 hp;have hbl:w2.heap[wr.heap.size]?=wz.heap[wr.heap.size]?:=by
    obtain⟨_,a',c',_,h2,_⟩:=hp;exact h2.block _ N4 HNZ.out
   obtain⟨rfl,a2,c2,he2,ht2,hn2⟩:=Bi.put HE.out HT.out HN.out hp;have q1:w2.cell? ⟨wr.heap.size,1,none⟩=some (.bool sd):=(Eg hbl).trans z1;(obtain⟨L3,hL3⟩:∃L3,L++X=L3:=⟨_,rfl⟩);rw[hL3] at he2;have o2:=he2.ops.cell;have hol2:=he2.ops.lt;(have hlen3:L3.length=L.length+X.length:=by rw[<- hL3,List.length_append]);have HE2:Hid (FX w w2 gp w.heap.size (w.heap.size+1) a2 c2 L3):=he2;have HT2:Hid (Aj (fun k=>k=w.heap.size\/oB none=some k) wk w2):=ht2;have HN2:Hid (∀k,oB a2=some k->oB none=some k\/wk.heap.size<=k):=hn2;have HL3:Hid (L++X=L3):=hL3;have N5:wr.heap.size<w2.heap.size:=by
    obtain⟨_,a',c',_,h2,_⟩:=hp;exact Nat.lt_of_lt_of_le N4 h2.size
   clear hpart hp hbl he2 ht2 hn2 hL3 hrun;cases sd
   ·have ht2':t=2:=by
     have:=of_decide_eq_false HSD.out;omega
    (have HQ:Hid (XA (t+1)=L3):=A3 <| by rw[HSU.out,ht2',TS,HL3.out]);clear ht2';(go_wp2_with fail);go_roundw;(case rel=>exact⟨t+1,by omega,by go_num,by rw[HQ.out];exact⟨a2,c2,HE2.out,HT2.out,HN2.out⟩⟩);case measure=>simp[intOf];omega
   ·have ht2':t≠2:=of_decide_eq_true HSD.out;by_cases hx:X=[]
    ·(have HQ:Hid (XA (t+1)=L3):=A3 <| by rw[HSU.out,U7 hx,List.append_nil,<- HL3.out,hx,List.append_nil]);(have hle:L3.length=L.length:=by rw[hlen3,hx];rfl);have dl:decide ((L.length:Int)<(L3.length:Int))=false:=decide_eq_false (by omega);have dl2:decide (L.length<L3.length)=false:=decide_eq_false (by omega);(have dl3:¬(L.length<L3.length):=by omega);clear hx hle hlen3;(go_wp2_with fail);go_roundw;(case rel=>exact⟨t+1,by omega,by go_num,by rw[HQ.out];exact⟨a2,c2,HE2.out,HT2.out,HN2.out⟩⟩);case measure=>simp[intOf];omega
    ·(have HQ:Hid (XA (t+1)=L3++[Ci]):=A3 <| by rw[HSU.out,Tq ht2' hx,<- List.append_assoc,HL3.out]);have hxl:0<X.length:=List.length_pos_iff.2 hx;have dl:decide ((L.length:Int)<(L3.length:Int))=true:=decide_eq_true (by omega);have dl2:decide (L.length<L3.length)=true:=decide_eq_true (by omega);(have dl3:L.length<L3.length:=by omega);have hput:=GS w.heap.size w.heap.size c2 a2 L3 ⟨2,0,0,0⟩ w2 (by omega) HE2.out.ops;clear hx hxl hlen3;dsimp only at hput;(go_wp2_with fail);refine hput.mono ?_;rintro r w3 hp3;obtain⟨rfl,hr3⟩:=Bi.put HE2.out HT2.out HN2.out hp3;clear hput hp3;(go_wp2_with fail);go_roundw;(case rel=>exact⟨t+1,by omega,by go_num,by rw[HQ.out];exact hr3⟩);case measure=>simp[intOf];omega
  ·(have et:t=5:=by omega);subst et;have o0:=he.ops.cell;have hol:=he.ops.lt;have HE:Hid _:=he;clear he ht hn;(go_wp2_with fail);go_ret;exact⟨a1,c1,rfl,HE.out.ops.row,HE.out.pl⟩
end Go.Proofs.YtnmhkgmmpkjjeaaGreat
