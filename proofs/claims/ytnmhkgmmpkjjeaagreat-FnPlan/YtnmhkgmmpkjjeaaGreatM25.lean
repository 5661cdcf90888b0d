import Derived.Test.YtnmhkgmmpkjjeaaGreatM24
namespace Go.Proofs.YtnmhkgmmpkjjeaaGreat
open ChangeShapes WideShapes ChangeAt RowKit Proofs.Tryz
set_option linter.all false
set_option maxRecDepth 100000
set_option maxHeartbeats 4000000
attribute [local go_sem ↓] wp_at_zero wp_at_succ
structure Tq (zs:List Int) (H:Nat->Ht) (kept fs:List P3):Prop where
 pl:Wu zs H kept fs
 ko:Lu kept
 fr:∀q∈kept,0<=q.fr/\q.fr*16+16<=zs.length
 len:zs.length<=1048576
 pos:16<=zs.length
theorem Tq.nat{zs:List Int}{H:Nat->Ht}{kept fs:List P3}(h:Tq zs H kept fs){lv pg:Int}(h0:0<=AI kept lv pg):∃F:Nat,AI kept lv pg=F/\F*16+16<=zs.length:=by
 obtain⟨q,hq,_,_,e⟩:=Co h0;have:=h.fr q hq;exact⟨(AI kept lv pg).toNat,by omega,by omega⟩
section
variable {V C gp gz cz gl B:Nat} {zs:List Int} {H:Nat->Ht} {kept fs:List P3} {wp:World} {Inv:(Nat->Prop)->List En->World->Prop}
theorem Vm(hI:K7 V C zs H (kept++fs) wp Inv)(hP:Io wp gp gz cz gl B zs H (BZ kept fs))(hK:Tq zs H kept fs)(p fr:Nat)(hp:p+16<=4096)(hfr:fr*16+16<=zs.length):∀(S:Nat->Prop) (es:List En) w,es.length+GY 1<=100000->Inv S es w->Calls prog 226 #[.pointer (some ⟨gp,0,none⟩),.agg #[.int .i64 fr,.int .i64 ((3:Nat):Int),.int .i64 p],.func (.func V) #[] #[.pointer (some ⟨C,0,none⟩)]] w (Fb Inv S (es++Lc kept 1 ⟨fr,((3:Nat):Int),p⟩) w) :=
 IH V C gp gz cz gl B zs H kept fs wp Inv hI hP hK.pl hK.len 0 3 p fr (by decide) (by decide) hp hfr (fun i S es wX _ hi h0 _=>by
  exfalso
  have:=hK.ko.no4 ((p+i*Ay 3:Nat):Int)
  have e:(((3:Nat):Int)+1)=4:=rfl
  rw[e] at h0
  omega)
theorem WL(hI:K7 V C zs H (kept++fs) wp Inv)(hP:Io wp gp gz cz gl B zs H (BZ kept fs))(hK:Tq zs H kept fs)(p fr:Nat)(hp:p+256<=4096)(hfr:fr*16+16<=zs.length):∀(S:Nat->Prop) (es:List En) w,es.length+GY 2<=100000->Inv S es w->Calls prog 226 #[.pointer (some ⟨gp,0,none⟩),.agg #[.int .i64 fr,.int .i64 ((2:Nat):Int),.int .i64 p],.func (.func V) #[] #[.pointer (some ⟨C,0,none⟩)]] w (Fb Inv S (es++Lc kept 2 ⟨fr,((2:Nat):Int),p⟩) w) :=
 IH V C gp gz cz gl B zs H kept fs wp Inv hI hP hK.pl hK.len 1 2 p fr (by decide) (by decide) hp hfr (fun i S es wX hl hi h0 hw=>by
  have e:(((2:Nat):Int)+1)=((3:Nat):Int):=rfl
  rw[e] at h0 ⊢
  have ee:Ay 2=16:=rfl
  obtain⟨F,hF,hF2⟩:=hK.nat h0
  rw[hF]
  exact Vm hI hP hK (p+i*Ay 2) F (by rw[ee];omega) hF2 S es wX hl hw)
theorem XM(hI:K7 V C zs H (kept++fs) wp Inv)(hP:Io wp gp gz cz gl B zs H (BZ kept fs))(hK:Tq zs H kept fs):∀(S:Nat->Prop) (es:List En) w,es.length+GY 3<=100000->Inv S es w->Calls prog 226 #[.pointer (some ⟨gp,0,none⟩),.agg #[.int .i64 ((0:Nat):Int),.int .i64 ((1:Nat):Int),.int .i64 ((0:Nat):Int)],.func (.func V) #[] #[.pointer (some ⟨C,0,none⟩)]] w (Fb Inv S (es++Lc kept 3 ⟨((0:Nat):Int),((1:Nat):Int),((0:Nat):Int)⟩) w) :=
 IH V C gp gz cz gl B zs H kept fs wp Inv hI hP hK.pl hK.len 2 1 0 0 (by decide) (by decide) (by decide) (by have:=hK.pos;omega) (fun i S es wX hl hi h0 hw=>by
  have e:(((1:Nat):Int)+1)=((2:Nat):Int):=rfl
  rw[e] at h0 ⊢
  have ee:Ay 1=256:=rfl
  obtain⟨F,hF,hF2⟩:=hK.nat h0
  rw[hF]
  exact WL hI hP hK (0+i*Ay 1) F (by rw[ee];omega) hF2 S es wX hl hw)
theorem GS(hI:K7 V C zs H (kept++fs) wp Inv)(hP:Io wp gp gz cz gl B zs H (BZ kept fs))(hK:Tq zs H kept fs)(S:Nat->Prop)(w:World)(hw:Inv S [] w):Calls prog 185 #[.pointer (some ⟨gp,0,none⟩),.func (.func V) #[] #[.pointer (some ⟨C,0,none⟩)]] w (Fb Inv S (Bf kept 4096) w):=by
 have h:=XM hI hP hK S [] w (by decide) hw;have e:Lc kept 3 ⟨((0:Nat):Int),((1:Nat):Int),((0:Nat):Int)⟩=Bf kept 4096:=Qw kept hK.ko;rw[List.nil_append,e] at h;have h2:Calls prog 226 #[.pointer (some ⟨gp,0,none⟩),.agg #[.int .i64 0,.int .i64 1,.int .i64 0],.func (.func V) #[] #[.pointer (some ⟨C,0,none⟩)]] w (Fb Inv S (Bf kept 4096) w):=h;clear h hI hP hK hw e;generalize Bf kept 4096=EL at *;unfold Fb at *;go_enter func185,ntmps185
 go_wp2_with fail
 refine h2.mono ?_;rintro e w1 ⟨rfl,hh⟩;clear h2;go_wp2_with fail
 refine bodyPost_end (v:=.tuple #[]) (by simp[results,results185,go_sem]) rfl ?_;exact⟨rfl,hh⟩
end
structure EA (w:World) (P B:Nat) (a:Option Addr) (c:Nat) (l:List BP):Prop where
 lt:P<w.heap.size
 cell:w.cell? ⟨P,0,none⟩=some (.slice a l.length c)
 fz:w.frozen? ⟨P,0,none⟩=false
 row:A8 BW w B (.slice a l.length c) l
 off:oB a≠some P
 base:B<=w.heap.size
theorem EA.tch{w w':World}{P B c:Nat}{a:Option Addr}{l:List BP}{S:Nat->Prop}(h:EA w P B a c l)(hg:BF S w w')(hP:¬S P)(hne:∀k,oB a=some k->¬S k):EA w' P B a c l :=
 ⟨Nat.lt_of_lt_of_le h.lt hg.size,(hg.cell (p:=⟨P,0,none⟩) h.lt hP).trans h.cell,(hg.frozen (p:=⟨P,0,none⟩) h.lt hP).trans h.fz,h.row.tch hg hne,h.off,Nat.le_trans h.base hg.size⟩
theorem EA.below{w w':World}{P B c:Nat}{a:Option Addr}{l:List BP}(h:EA w P B a c l)(hb:Bl w w'):EA w' P B a c l:=h.tch (BF.of_below (S:=fun _=>False) hb) (fun f=>f) (fun _ _ f=>f)
theorem EA.own{w:World}{P B c:Nat}{a:Option Addr}{l:List BP}(h:EA w P B a c l):∀k,oB a=some k->B<=k/\k<w.heap.size:=fun k hk=>h.row.own k (by rw[Cc];exact hk)
def Dr (P B:Nat) (a:Option Addr) (l':List BP) (w:World) (r:Ending) (w':World):Prop:=r=.returned (.tuple #[])/\∃a' c',EA w' P B a' c' l'/\BF (fun k=>k=P\/oB a=some k) w w'/\(∀k,oB a'=some k->oB a=some k\/w.heap.size<=k)
theorem Dr.pre{P B c:Nat}{a:Option Addr}{l l':List BP}{w w1:World}{r:Ending}{w':World}(hb:Bl w w1)(h:Dr P B a l' w1 r w'):Dr P B a l' w r w':=by
 obtain⟨e,a',c',h1,h2,h3⟩:=h;exact⟨e,a',c',h1,(BF.of_below hb).then h2 (fun k _ h=>h),fun k hk=>(h3 k hk).imp id (fun hj=>Nat.le_trans hb.size hj)⟩
theorem Dr.same{P B c:Nat}{a:Option Addr}{l:List BP}{w w':World}(h:EA w P B a c l)(hb:Bl w w'):Dr P B a l w (.returned (.tuple #[])) w':=⟨rfl,a,c,h.below hb,BF.of_below hb,fun k hk=>.inl hk⟩
def GO (P:Nat):Value:=.func (.func 146) #[] #[.pointer (some ⟨P,0,none⟩)]
theorem Hb(P B c:Nat)(a:Option Addr)(l:List BP)(x:BP)(w:World)(hn:l.length<=1000000)(h:EA w P B a c l):Calls prog 146 #[.agg #[.int .i64 x.kind,.int .i64 x.a,.int .i64 x.b,.int .u64 x.word],.pointer (some ⟨P,0,none⟩)] w (Dr P B a (l++[x]) w):=by
 unfold Dr;obtain⟨iO,hiO,hzO0,hzO1,hzO2⟩:=info_parts Ns;obtain⟨K,A,Bb,W⟩:=x;obtain⟨wb,hwb⟩:∃wb,wb=(w.alloc (.cells #[.int .i64 K,.int .i64 A,.int .i64 Bb,.int .u64 W] 77)).alloc (.cells #[.int .i64 K,.int .i64 A,.int .i64 Bb,.int .u64 W] 77):=⟨_,rfl⟩
 have hbb:Bl w wb:=by rw[hwb];exact AO.alloc (by simp) _
 have hzb:wb.heap.size=w.heap.size+2:=by rw[hwb];simp
 have c0:=h.cell;have hlt:=h.lt;have HH:=A5 h;have HN:Hid (∀j u,[Value.int .i64 K,.int .i64 A,.int .i64 Bb,.int .u64 W][j]?=some u->wb.cell? ((⟨w.heap.size+1,0,none⟩:Addr).add j)=some u):=A9 <| by
  have:wb.heap[w.heap.size+1]?=some (.cells #[.int .i64 K,.int .i64 A,.int .i64 Bb,.int .u64 W] 77):=by
   rw[hwb];have:=heap_alloc_new (w.alloc (.cells #[.int .i64 K,.int .i64 A,.int .i64 Bb,.int .u64 W] 77)) (.cells #[.int .i64 K,.int .i64 A,.int .i64 Bb,.int .u64 W] 77);simpa using this
  exact fun j u hu=>World.news_of_block this j u hu
 have HC:Hid (World.ownsRow wb B 77 4 (.slice a l.length c) l.length (AK BW l)):=(h.below hbb).row;have HWB:=A5 hwb;have HBB:=A5 hbb;have HZB:=A5 hzb;clear hwb hbb hzb h;go_enter func146,ntmps146
 go_wp2_with (at_builtin;rw[<- HWB.out];refine wpList_append_lies _ rfl (.tmp 3) (.tmp 5) 25 rfl B 77 iO _ 4 32 underlying25 hiO hzO0 hzO1 hzO2 rfl (by omega) (.slice a l.length c) l.length (AK BW l) rfl HC.out ⟨w.heap.size+1,0,none⟩ 1 1 [.int .i64 K,.int .i64 A,.int .i64 Bb,.int .u64 W] rfl rfl HN.out ?c2 (by omega) ?c3 ?c4 ?c5 (w.heap.size+2) ?c6 ?_)
 case c2=>intro u hu;simp at hu;rcases hu with rfl|rfl|rfl|rfl<;>rfl
 case c3=>unfold maxLen;omega
 case c4=>omega
 case c5=>have:=HZB.out;have:=HH.out.base;omega
 case c6=>exact HZB.out
 intro g1 cap1 w2 hown hgrow hat hlt2;rw[Cc] at hgrow hat;have hPb:P<wb.heap.size:=by have:=HZB.out;omega
 have hblk:w2.heap[P]?=w.heap[P]?:=(hgrow.block P hPb (fun e=>HH.out.off e.symm)).trans (HBB.out.block P hlt);have c2:w2.cell? ⟨P,0,none⟩=some (.slice a l.length c):=(F2 hblk).trans c0;have f2:w2.frozen? ⟨P,0,none⟩=false:=(aD hblk).trans HH.out.fz;have lt2:P<w2.heap.size:=Nat.lt_of_lt_of_le hPb hgrow.size;have HFIN:Hid (EA (w2.setCell ⟨P,0,none⟩ (.slice (some ⟨g1,0,none⟩) (l.length+1) cap1)) P B (some ⟨g1,0,none⟩) cap1 (l++[⟨K,A,Bb,W⟩])/\BF (fun k=>k=P\/oB a=some k) w (w2.setCell ⟨P,0,none⟩ (.slice (some ⟨g1,0,none⟩) (l.length+1) cap1))/\(∀k,oB (some (⟨g1,0,none⟩:Addr))=some k->oB a=some k\/w.heap.size<=k)):=A9 <| by
  have hlen:(l++[(⟨K,A,Bb,W⟩:BP)]).length=l.length+1:=by simp
  have ho:oB (some (⟨g1,0,none⟩:Addr))=oB a\/∃j,oB (some (⟨g1,0,none⟩:Addr))=some j/\w.heap.size<=j:=by
   rcases hat with e|e
   ·exact .inl e.symm
   ·exact .inr ⟨g1,rfl,by omega⟩
  have hoP:oB (some (⟨g1,0,none⟩:Addr))≠some P:=by
   rcases ho with e|⟨j,e,hj⟩
   ·rw[e];exact HH.out.off
   ·rw[e];intro e2;simp only[Option.some.injEq] at e2;omega
  have hr:A8 BW w2 B (.slice (some ⟨g1,0,none⟩) (l.length+1) cap1) (l++[⟨K,A,Bb,W⟩]):=by
   unfold A8;rw[hlen,CC];exact hown
  have hT:BF (fun k=>k=P\/oB a=some k) w w2:=(BF.of_below HBB.out).then (BF.of_grown (S:=fun k=>oB a=some k) hgrow (fun k e=>e)) (fun k _ h=>.inr h);have hbase:B<=w2.heap.size:=by have:=HH.out.base;have:=hT.size;omega
  refine⟨⟨by simpa using lt2,?_,by simpa using f2,by rw[hlen];exact hr.tch (S:=fun j=>j=P) ((BF.refl w2).set _ _ rfl) (fun j e e2=>hoP (by rw[e,e2])),hoP,by simpa using hbase⟩,hT.set _ _ (.inl rfl),fun k hk=>?_⟩
  ·rw[hlen];exact World.cell?_setCell_same _ _ _ c2
  ·rcases ho with e|⟨j,e,hj⟩
   ·exact .inl (by rw[<- e];exact hk)
   ·rw[e] at hk;simp only[Option.some.injEq] at hk;exact .inr (by omega)
 clear hown hgrow hat hblk hlt2;go_wp2_with fail
 refine bodyPost_end (v:=.tuple #[]) (by simp[results,results146,go_sem]) rfl ?_;exact⟨rfl,some ⟨g1,0,none⟩,cap1,HFIN.out⟩
theorem RO(PB P B c:Nat)(a:Option Addr)(l:List BP)(zs:List Int)(H:Nat->Ht)(all:List P3)(lv pg ad:Int)(w:World)(hn:l.length<=900000)(hz:0<=Fl zs ad/\Fl zs ad<18446744073709551616)(hpb:w.cell? ⟨PB,0,none⟩=some (GO P))(hpl:PB<w.heap.size)(h:EA w P B a c l):Calls prog 186 #[GZ zs H all lv pg ad,.pointer (some ⟨PB,0,none⟩)] w (Dr P B a (l++(if GW zs H all ⟨lv,pg,ad⟩ then [⟨1,ad,0,0⟩] else [])) w):=by
 have hbr:=fun wX=>Lw zs H all lv pg ad wX hz
 obtain⟨bb,hbb⟩:∃bb,GW zs H all ⟨lv,pg,ad⟩=bb:=⟨_,rfl⟩
 rw[hbb] at hbr ⊢;unfold GZ at hbr ⊢;generalize Fl zs ad=Z at *;generalize C3 H all lv pg=R at *;obtain⟨wb,hwb⟩:∃wb,wb=w.alloc (.cells #[.int .i64 lv,.int .i64 pg,.int .i64 ad,.int .u64 Z,.int .u64 R] 275):=⟨_,rfl⟩
 have hb0:Bl w wb:=by rw[hwb];exact AO
 have q2:wb.cell? ⟨w.heap.size,2,none⟩=some (.int .i64 ad):=by rw[hwb];simp[go_sem]
 have q4:wb.cell? ⟨w.heap.size,4,none⟩=some (.int .u64 R):=by rw[hwb];simp[go_sem]
 have N0:w.heap.size<wb.heap.size:=by rw[hwb];simp
 have HB0:=A5 hb0;have HWB:=A5 hwb;have HH:=A5 h;have HPB:=A5 hpb;clear hwb hb0 h hpb hz hbb;cases bb
 ·rw[if_neg (by decide),List.append_nil];go_enter func186,ntmps186
  go_wp2_with fail
  rw[<- HWB.out];refine(hbr _).mono ?_;rintro e w1 ⟨rfl,hb1⟩;clear hbr;go_wp2_with fail
  refine bodyPost_end (v:=.tuple #[]) (by simp[results,results186,go_sem]) rfl ?_;exact Dr.same HH.out (Ab HB0.out hb1)
 ·rw[if_pos rfl];go_enter func186,ntmps186
  go_wp2_with fail
  rw[<- HWB.out];refine(hbr _).mono ?_;rintro e w1 ⟨rfl,hb1⟩;have hb01:=Ab HB0.out hb1;have hput:=Hb P B c a l ⟨1,ad,0,0⟩ w1 (by omega) (HH.out.below hb01);have p1:w1.cell? ⟨PB,0,none⟩=some (.func (.func 146) #[] #[.pointer (some ⟨P,0,none⟩)]):=(hb01.cell (p:=⟨PB,0,none⟩) hpl).trans HPB.out;have r2:w1.cell? ⟨w.heap.size,2,none⟩=some (.int .i64 ad):=(hb1.cell (p:=⟨w.heap.size,2,none⟩) N0).trans q2;have HB01:=A5 hb01;clear hbr hb1 hb01;dsimp only at hput;go_wp2_with fail
  refine hput.mono ?_;rintro e w2 hp;obtain⟨rfl,hp2⟩:=Dr.pre (c:=c) (l:=l) HB01.out hp;clear hput hp;go_wp2_with fail
  refine bodyPost_end (v:=.tuple #[]) (by simp[results,results186,go_sem]) rfl ?_;exact⟨rfl,hp2⟩
theorem Qj(PB P B c:Nat)(a:Option Addr)(l:List BP)(zs:List Int)(H:Nat->Ht)(all:List P3)(lv pg ad:Int)(w:World)(hn:l.length<=900000)(hz:0<=Fl zs ad/\Fl zs ad<18446744073709551616)(hpb:w.cell? ⟨PB,0,none⟩=some (GO P))(hpl:PB<w.heap.size)(h:EA w P B a c l):Calls prog 195 #[GZ zs H all lv pg ad,.pointer (some ⟨PB,0,none⟩)] w (Dr P B a (l++(if MT zs H all ⟨lv,pg,ad⟩ then [⟨1,ad,0,C3 H all lv pg⟩] else [])) w):=by
 have hbr:=fun wX=>Ql zs H all lv pg ad wX
 obtain⟨bb,hbb⟩:∃bb,MT zs H all ⟨lv,pg,ad⟩=bb:=⟨_,rfl⟩
 rw[hbb] at hbr ⊢;unfold GZ at hbr ⊢;generalize Fl zs ad=Z at *;generalize C3 H all lv pg=R at *;obtain⟨wb,hwb⟩:∃wb,wb=w.alloc (.cells #[.int .i64 lv,.int .i64 pg,.int .i64 ad,.int .u64 Z,.int .u64 R] 275):=⟨_,rfl⟩
 have hb0:Bl w wb:=by rw[hwb];exact AO
 have q2:wb.cell? ⟨w.heap.size,2,none⟩=some (.int .i64 ad):=by rw[hwb];simp[go_sem]
 have q4:wb.cell? ⟨w.heap.size,4,none⟩=some (.int .u64 R):=by rw[hwb];simp[go_sem]
 have N0:w.heap.size<wb.heap.size:=by rw[hwb];simp
 have HB0:=A5 hb0;have HWB:=A5 hwb;have HH:=A5 h;have HPB:=A5 hpb;clear hwb hb0 h hpb hz hbb;cases bb
 ·rw[if_neg (by decide),List.append_nil];go_enter func195,ntmps195
  go_wp2_with fail
  rw[<- HWB.out];refine(hbr _).mono ?_;rintro e w1 ⟨rfl,hb1⟩;clear hbr;go_wp2_with fail
  refine bodyPost_end (v:=.tuple #[]) (by simp[results,results195,go_sem]) rfl ?_;exact Dr.same HH.out (Ab HB0.out hb1)
 ·rw[if_pos rfl];go_enter func195,ntmps195
  go_wp2_with fail
  rw[<- HWB.out];refine(hbr _).mono ?_;rintro e w1 ⟨rfl,hb1⟩;have hb01:=Ab HB0.out hb1;have hput:=Hb P B c a l ⟨1,ad,0,R⟩ w1 (by omega) (HH.out.below hb01);have p1:w1.cell? ⟨PB,0,none⟩=some (.func (.func 146) #[] #[.pointer (some ⟨P,0,none⟩)]):=(hb01.cell (p:=⟨PB,0,none⟩) hpl).trans HPB.out;have r2:w1.cell? ⟨w.heap.size,2,none⟩=some (.int .i64 ad):=(hb1.cell (p:=⟨w.heap.size,2,none⟩) N0).trans q2;have r4:w1.cell? ⟨w.heap.size,4,none⟩=some (.int .u64 R):=(hb1.cell (p:=⟨w.heap.size,4,none⟩) N0).trans q4;have HB01:=A5 hb01;clear hbr hb1 hb01;dsimp only at hput;go_wp2_with fail
  refine hput.mono ?_;rintro e w2 hp;obtain⟨rfl,hp2⟩:=Dr.pre (c:=c) (l:=l) HB01.out hp;clear hput hp;go_wp2_with fail
  refine bodyPost_end (v:=.tuple #[]) (by simp[results,results195,go_sem]) rfl ?_;exact⟨rfl,hp2⟩
theorem Ur(p:Nat->Bool)(n v:Nat)(hv:v<n):KN (C4 p n) (v:Int)=C4 (fun q=>p q||decide (q=v)) n:=by
 refine EO (IV (Df _ _) _) (Df _ _) (fun x=>?_);rw[NZ (Df _ _),Ge,Ge];constructor
 ·rintro(rfl|⟨k,h1,h2,h3⟩)
  ·exact⟨v,hv,by simp,rfl⟩
  ·exact⟨k,h1,by simp[h2],h3⟩
 ·rintro⟨k,h1,h2,h3⟩;rw[Bool.or_eq_true] at h2;rcases h2 with h2|h2
  ·exact .inr ⟨k,h1,h2,h3⟩
  ·exact .inl (by rw[h3,of_decide_eq_true h2])
theorem U7(p:Nat->Bool)(n:Nat):(C4 p n).length<=n:=by
 unfold C4;rw[List.length_map];exact Nat.le_trans (List.length_filter_le _ _) (by rw[List.length_range];omega)
theorem GE{p q:Nat->Bool}{n:Nat}(h:∀k,k<n->p k=q k):C4 p n=C4 q n:=by
 unfold C4;rw[List.filter_congr (fun x hx=>h x (List.mem_range.1 hx))]
def Za (G B:Nat) (a:Option Addr) (xs:List Int) (w:World) (r:Ending) (w':World):Prop:=r=.returned (.tuple #[])/\∃a' c',Bw w' G 0 B a' c' xs/\BF (fun k=>k=G\/oB a=some k) w w'/\(oB a'=oB a\/∃j,oB a'=some j/\w.heap.size<=j)
theorem R6(G B c:Nat)(a:Option Addr)(mk mk':Nat->Bool)(zs:List Int)(H:Nat->Ht)(all:List P3)(lv pg:Nat)(ad:Int)(w:World)(h1:1<=lv)(h3:lv<=3)(hpg:pg+Ay lv<=4096)(hz:0<=Fl zs ad/\Fl zs ad<18446744073709551616)(hmk:∀q,mk' q=(mk q||(GW zs H all ⟨lv,pg,ad⟩&&decide (pg<=q/\q<pg+Ay lv))))(h:Bw w G 0 B a c (C4 mk 4096)):Calls prog 189 #[GZ zs H all lv pg ad,.pointer (some ⟨G,0,none⟩)] w (Za G B a (C4 mk' 4096) w):=by
 have hbr:=fun wX=>Lw zs H all lv pg ad wX hz
 have hcv:=BJ lv;rw[Cx lv] at hcv;obtain⟨EP,hEP⟩:∃EP,Ay lv=EP:=⟨_,rfl⟩
 rw[hEP] at hcv hpg hmk;obtain⟨bb,hbb⟩:∃bb,GW zs H all ⟨lv,pg,ad⟩=bb:=⟨_,rfl⟩
 rw[hbb] at hbr hmk;unfold GZ at hbr ⊢;generalize Fl zs ad=Z at *;generalize C3 H all lv pg=R at *;unfold Za;obtain⟨wb,hwb⟩:∃wb,wb=w.alloc (.cells #[.int .i64 lv,.int .i64 pg,.int .i64 ad,.int .u64 Z,.int .u64 R] 275):=⟨_,rfl⟩
 have hb0:Bl w wb:=by rw[hwb];exact AO
 have q0:wb.cell? ⟨w.heap.size,0,none⟩=some (.int .i64 lv):=by rw[hwb];simp[go_sem]
 have q1:wb.cell? ⟨w.heap.size,1,none⟩=some (.int .i64 pg):=by rw[hwb];simp[go_sem]
 have N0:w.heap.size<wb.heap.size:=by rw[hwb];simp
 have HB0:=A5 hb0;have HWB:=A5 hwb;have HH:=A5 h;have HMK:=A5 hmk;clear hwb hb0 h hz hbb hmk hEP;cases bb
 ·have HE:Hid (C4 mk' 4096=C4 mk 4096):=GE (fun k _=>by rw[HMK.out];simp);go_enter func189,ntmps189
  go_wp2_with fail
  rw[<- HWB.out];refine(hbr _).mono ?_;rintro e w1 ⟨rfl,hb1⟩;have hb01:=Ab HB0.out hb1;clear hbr hb1;go_wp2_with fail
  refine bodyPost_ret (v:=.tuple #[]) (by simp[results,results189,go_sem]) rfl ?_;exact⟨rfl,a,c,by rw[HE.out];exact HH.out.tch (BF.of_below (S:=fun _=>False) hb01) (fun f=>f) (fun _ _ f=>f),BF.of_below hb01,.inl rfl⟩
 ·have HE:Hid (C4 mk' 4096=C4 (fun q=>mk q||decide (pg<=q/\q<pg+EP)) 4096):=GE (fun k _=>by rw[HMK.out];simp);go_enter func189,ntmps189
  go_wp2_with fail
  rw[<- HWB.out];refine(hbr _).mono ?_;rintro e w1 ⟨rfl,hb1⟩;have HB01:Hid (Bl w w1):=Ab HB0.out hb1;have r0:w1.cell? ⟨w.heap.size,0,none⟩=some (.int .i64 lv):=(hb1.cell (p:=⟨w.heap.size,0,none⟩) N0).trans q0;have r1:w1.cell? ⟨w.heap.size,1,none⟩=some (.int .i64 pg):=(hb1.cell (p:=⟨w.heap.size,1,none⟩) N0).trans q1;have N1:w.heap.size<w1.heap.size:=Nat.lt_of_lt_of_le N0 hb1.size;clear hbr hb1 q0 q1;go_wp2_with fail
  refine(hcv _).mono ?_;rintro e w2 ⟨rfl,hw2⟩;obtain rfl:=hw2.symm;clear hcv;go_wp2_with fail
  have HR1:=A5 r1;clear r0 r1;go_loopw [10] (fun iv wr=>∃i:Nat,i<=EP/\iv=.int .i64 i/\(∃a' c',Bw wr G 0 B a' c' (C4 (fun q=>mk q||decide (pg<=q/\q<pg+i)) 4096)/\BF (fun k=>k=G\/oB a=some k) w wr/\(oB a'=oB a\/∃j,oB a'=some j/\w.heap.size<j))/\wr.heap[w.heap.size]?=w1.heap[w.heap.size]?/\w.heap.size<wr.heap.size) (fun iv _=>EP-(intOf iv).toNat)
  case atStart =>
   have e0:C4 (fun q=>mk q||decide (pg<=q/\q<pg+0)) 4096=C4 mk 4096:=GE (fun k _=>by
    have:decide (pg<=k/\k<pg+0)=false:=decide_eq_false (by omega)
    rw[this,Bool.or_false])
   exact⟨0,Nat.zero_le _,rfl,⟨a,c,by rw[e0];exact HH.out.tch (BF.of_below (S:=fun _=>False) HB01.out) (fun f=>f) (fun _ _ f=>f),BF.of_below HB01.out,.inl rfl⟩,rfl,N1⟩
  case round =>
   obtain⟨i,hi,rfl,⟨a',c',hset,htch,hown⟩,hblk,hsz⟩:=hrel;by_cases hlt:i<EP
   ·(obtain⟨X,hX⟩:∃X,pg+i=X:=⟨_,rfl⟩);have hadd:=O4 G 0 B c' a' (C4 (fun q=>mk q||decide (pg<=q/\q<pg+i)) 4096) (X:Int) wr (Df _ _) (by have:=U7 (fun q=>mk q||decide (pg<=q/\q<pg+i)) 4096;omega) hset;rw[Ur _ 4096 X (by omega)] at hadd
    have HN:Hid (C4 (fun q=>(mk q||decide (pg<=q/\q<pg+i))||decide (q=X)) 4096=C4 (fun q=>mk q||decide (pg<=q/\q<pg+(i+1))) 4096):=GE (fun k _=>by
     rw[Bool.or_assoc]
     congr 1
     by_cases e:k=X
     ·rw[decide_eq_true e,Bool.or_true,decide_eq_true (show pg<=k/\k<pg+(i+1) by omega)]
     ·rw[decide_eq_false e,Bool.or_false]
      by_cases e2:pg<=k/\k<pg+i
      ·rw[decide_eq_true e2,decide_eq_true (show pg<=k/\k<pg+(i+1) by omega)]
      ·rw[decide_eq_false e2,decide_eq_false (show ¬(pg<=k/\k<pg+(i+1)) by omega)])
    have r1:wr.cell? ⟨w.heap.size,1,none⟩=some (.int .i64 pg):=(F2 hblk).trans HR1.out;(have W2:IntKind.i64.wrap ((pg:Int)+(i:Int))=(X:Int):=by rw[IntKind.wrap_i64];omega);have HTC:=A5 htch;have HOW:=A5 hown;have HBK:=A5 hblk;clear hX hset htch hown hblk;(go_wp2_with fail);refine hadd.mono ?_;rintro e w3 ⟨rfl,a2,c2,st⟩;rw[HN.out] at st;clear hadd;(go_wp2_with fail);go_roundw;case rel =>
     (have hoa:∀k,oB a=some k->k<w.heap.size:=fun k hk=>(HH.out.row.own k (by rw[Cc];exact hk)).2);have hnz:¬(w.heap.size=G\/oB a'=some w.heap.size):=fun hh=>by
      rcases hh with e|e
      ·have:=HH.out.lt;omega
      ·rcases HOW.out with e2|⟨j,e2,hj⟩
       ·have:=hoa _ (by rw[<- e2];exact e);omega
       ·rw[e] at e2;simp only[Option.some.injEq] at e2;omega
     refine⟨i+1,by omega,by go_num,⟨a2,c2,st.set,HTC.out.then st.tch (fun k hk hh=>?_),?_⟩,(st.tch.block _ hsz hnz).trans HBK.out,Nat.lt_of_lt_of_le hsz st.tch.size⟩
     ·rcases hh with e|e
      ·exact .inl e
      ·rcases HOW.out with e2|⟨j,e2,hj⟩
       ·exact .inr (by rw[<- e2];exact e)
       ·rw[e] at e2;simp only[Option.some.injEq] at e2;omega
     ·rcases st.own with e|⟨j,e,hj⟩
      ·rw[e];exact HOW.out
      ·exact .inr ⟨j,e,by omega⟩
    case measure=>simp[intOf];omega
   ·(have ei:i=EP:=by omega);subst ei;(go_wp2_with fail);refine bodyPost_end (v:=.tuple #[]) (by simp[results,results189,go_sem]) rfl ?_;exact⟨rfl,a',c',by rw[HE.out];exact hset,htch,hown.imp id (fun hh=>by obtain⟨j,e,hj⟩:=hh;exact⟨j,e,by omega⟩)⟩
end Go.Proofs.YtnmhkgmmpkjjeaaGreat
