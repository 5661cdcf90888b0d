import Derived.Test.YtnmhkgmmpkjjeabGreatE08
import Derived.Laws.Cover3
namespace Go.Proofs.YtnmhkgmmpkjjeabGreat
open ChangeShapes WideShapes ChangeAt RowKit Proofs.Tryz
set_option linter.all false
set_option maxRecDepth 100000
set_option maxHeartbeats 4000000
attribute [local go_sem ↓] wp_at_zero wp_at_succ
structure EG (zs:List Int):Prop where
 n0:BS zs.length≠0
 rng:∀i,0<=zs.getD i 0/\zs.getD i 0<2 ^ 64
def NQ (zs:List Int) (d:Nat) (p:P3):Prop:=p.lv+d=3/\1<=p.lv/\0<=p.fr/\p.fr<BS zs.length/\0<=p.pg/\p.pg<=4096*p.lv
theorem FP{zs:List Int}{d:Nat}{p:P3}(h:NQ zs (d+1) p)(i:Nat)(hi:i<16)(hl:Ea zs (BS zs.length) p i=true):NQ zs d (under zs p i):=by
 obtain⟨a,b,c,e,f,g⟩:=h;simp only[Ea,Bool.and_eq_true,decide_eq_true_eq] at hl;have ho:=Cp p.lv (Af zs p.fr i);have hc:=Ek p.lv;have y0:0<=(i:Int)*Ab p.lv:=Int.mul_nonneg (by omega) hc.1;have y1:(i:Int)*Ab p.lv<=15*256:=Int.mul_le_mul (by omega) hc.2 hc.1 (by omega);refine⟨?_,?_,ho.1,hl.2,?_,?_⟩
 ·show p.lv+1+d=3;omega
 ·show 1<=p.lv+1;omega
 ·show 0<=p.pg+i*Ab p.lv;omega
 ·show p.pg+i*Ab p.lv<=4096*(p.lv+1);omega
theorem FW{zs:List Int}:∀(d:Nat) (p:P3),NQ zs d p->∀q∈Bv zs (BS zs.length) d p,∃d',NQ zs d' q
 | 0,p,h=>by intro q hq;simp[Bv] at hq;subst hq;exact⟨0,h⟩
 | d+1,p,h=>by
  intro q hq;simp only[Bv,Ak,List.mem_cons,List.mem_flatMap,List.mem_range] at hq;rcases hq with rfl|⟨i,hi,hq⟩
  ·exact⟨d+1,h⟩
  ·by_cases hl:Ea zs (BS zs.length) p i=true
   ·rw[if_pos hl] at hq;exact FW d _ (FP h i hi hl) q hq
   ·rw[if_neg hl] at hq;simp at hq
theorem Ed(g:Nat)(zs:List Int)(c:Nat)(hz:EG zs):∀(d:Nat),d<=2->∀(p:P3) (w:World),NQ zs d p->Bj w g zs ->
  Calls prog 142 #[.agg #[.slice (some ⟨g,0,none⟩) zs.length c],.agg #[.int .i64 p.fr,.int .i64 p.lv,.int .i64 p.pg]] w fun e w'=>∃a c,e=.returned (.slice a (Bv zs (BS zs.length) d p).length c)/\BK w' w.heap.size (.slice a (Bv zs (BS zs.length) d p).length c) (Bv zs (BS zs.length) d p)/\Below w.heap.size w w'
 | 0,_,p,w,hp,hg=>Jx g zs.length c p (by have:=hp.1;omega) w
 | d+1,hd,p,w,hp,hg=>by
  have hm:=BP zs.length hz.n0;have hle:=Cd zs.length;have hp':=hp;obtain⟨a,b,c1,e,f,g1⟩:=hp';refine Je g zs c d p p.fr.toNat (by omega) (by omega) (by omega) b (by omega) f g1 (Bv zs (BS zs.length) d) ?_ (BS zs.length) rfl ?_ ?_ w hg
  ·intro q;have:=Co zs (BS zs.length) d q;have:NX d<=17:=by
    rcases(show d=0\/d=1 by omega) with rfl|rfl<;>decide
   omega
  ·intro i hi w;have:=hz.rng ((p.fr*16).toNat+i);exact DH p.lv (Af zs p.fr i) this.1 this.2 w
  ·intro i w hi hl hg;exact Ed g zs c hz d (by omega) (under zs p i) w (FP hp i hi hl) hg
def AK (zs:List Int):List P3:=if BS zs.length=0 then [] else Bv zs (BS zs.length) 2 ⟨0,1,0⟩
def MP (zs:List Int):Bool:=!decide (BS zs.length=0)&&Cl zs (BS zs.length) (AK zs) (AK zs).length
theorem CG(zs:List Int):(AK zs).length<=273:=by
 unfold AK;split
 ·simp
 ·exact Co zs _ 2 _
theorem Gk(g:Nat)(n c:Nat)(hn:n<=1048576)(h0:BS n=0)(w:World):Calls prog 114 #[.agg #[.slice (some ⟨g,0,none⟩) n c]] w fun e w'=>∃a c',e=.returned (.tuple #[.slice a 0 c',.bool false])/\BK w' w.heap.size (.slice a 0 c') []/\Below w.heap.size w w':=by
 have hf:=CQ (some ⟨g,0,none⟩) n c (by omega);rw[h0] at hf;go_enter func114,ntmps114
 go_wp2_with (go_at_call 86;refine(hf _).mono ?_;rintro e w1 ⟨rfl,hb1⟩)
 go_ret2
 have hs:=hb1.size;simp at hs;exact⟨_,_,rfl,⟨rfl,.inr ⟨w1.heap.size,0,#[],rfl,by omega,heap_alloc_new w1 _,Nat.le_refl _,by unfold maxLen;omega,rfl,rfl⟩⟩,(((Below.refl _ _).alloc (Nat.le_refl _) _).trans (hb1.mono (by simp))).alloc (by omega) _⟩
theorem Hg(a:Option Addr)(m c:Nat)(hm:m<=17592186044416)(w:World):Calls prog 97 #[.agg #[.slice a m c]] w fun e w'=>e=.returned (.bool (!decide (BS m=0)))/\Below w.heap.size w w':=by
 by_cases h1:m<16
 ·have e:BS m=0:=by unfold BS;rw[if_pos (.inl h1)]
  simp only[e,decide_true,Bool.not_true];have h1':decide ((16:Int)<=m)=false:=by simp;omega
  clear e;go_enter func97,ntmps97
  go_wp2
  go_ret;exact⟨rfl,(Below.refl _ _).alloc (Nat.le_refl _) _⟩
 ·by_cases h2:8192<m
  ·(have e:BS m=0:=by unfold BS;rw[if_pos (.inr (.inl h2))]);simp only[e,decide_true,Bool.not_true];(have h1':decide ((16:Int)<=m)=true:=by simp;omega);(have h2':decide ((m:Int)<=8192)=false:=by simp;omega);clear e;(go_enter func97,ntmps97);(go_wp2);go_ret;exact⟨rfl,(Below.refl _ _).alloc (Nat.le_refl _) _⟩
  ·(have h1':decide ((16:Int)<=m)=true:=by simp;omega);(have h2':decide ((m:Int)<=8192)=true:=by simp;omega);by_cases h3:m%16=0
   ·(have e:¬BS m=0:=by unfold BS;rw[if_neg (by omega)];omega);simp only[e,decide_false,Bool.not_false];(have h3':((m:Int)%16==0)=true:=by simp;omega);clear e;(go_enter func97,ntmps97);(go_wp2);go_ret;exact⟨rfl,(Below.refl _ _).alloc (Nat.le_refl _) _⟩
   ·(have e:BS m=0:=by unfold BS;rw[if_pos (.inr (.inr h3))]);simp only[e,decide_true,Bool.not_true];(have h3':((m:Int)%16==0)=false:=by simp;omega);clear e;(go_enter func97,ntmps97);(go_wp2);go_ret;exact⟨rfl,(Below.refl _ _).alloc (Nat.le_refl _) _⟩
theorem D8(a:Option Addr)(m c:Nat)(o n:Int)(hn:n*16=m)(ho:0<=o)(hm:m<=8192)(w:World):Calls prog 127 #[.agg #[.slice a m c],.int .i64 o] w fun e w'=>e=.returned (.bool (decide (o<n)))/\Below w.heap.size w w':=by
 have e1:(m:Int)/16=n:=by omega
 have h0:decide (0<=o)=true:=by simpa using ho
 by_cases h:o<n
 ·have h1:decide (o<(m:Int)/16)=true:=by rw[e1];simpa using h
  simp only[h,decide_true];clear e1 h;go_enter func127,ntmps127
  go_wp2
  go_ret;exact⟨rfl,(Below.refl _ _).alloc (Nat.le_refl _) _⟩
 ·have h1:decide (o<(m:Int)/16)=false:=by rw[e1];simpa using h
  simp only[h,decide_false];clear e1 h;go_enter func127,ntmps127
  go_wp2
  go_ret;exact⟨rfl,(Below.refl _ _).alloc (Nat.le_refl _) _⟩
theorem Bc(l:Int)(w:World):Calls prog 128 #[.int .i64 l] w fun e w'=>e=.returned (.int .i64 (Ab l))/\w'=w:=by
 by_cases h1:l=1
 ·subst h1;go_enter func128,ntmps128
  go_wp2
  go_ret;exact⟨rfl,rfl⟩
 ·by_cases h2:l=2
  ·subst h2;(go_enter func128,ntmps128);(go_wp2);go_ret;exact⟨rfl,rfl⟩
  ·(have e:Ab l=1:=by simp[Ab,h1,h2]);rw[e];(have h1':(l==1)=false:=by simpa using h1);(have h2':(l==2)=false:=by simpa using h2);clear e h1 h2;(go_enter func128,ntmps128);(go_wp2);go_ret;exact⟨rfl,rfl⟩
theorem Cc(l:Int)(w:World):Calls prog 102 #[.int .i64 l] w fun e w'=>e=.returned (.int .i64 (16*Ab l))/\w'=w:=by
 have hc:=Bc l;have hb:=Ek l;generalize Ab l=C at *;go_enter func102,ntmps102
 go_wp2_with (go_at_call 128;refine(hc _).mono ?_;rintro e w1 ⟨rfl,rfl⟩)
 go_ret;exact⟨rfl,rfl⟩
set_option maxRecDepth 100000 in
theorem Ia(g:Nat)(zs:List Int)(c F:Nat)(hF:F*16+16<=zs.length)(hlen:zs.length<=8192)(hc:zs.length<=c)(w:World)(hg:Bj w g zs):Calls prog 165 #[.agg #[.slice (some ⟨g,0,none⟩) zs.length c],.int .i64 F] w fun e w'=>(∃T:Array Value,e=.returned (.agg T)/\T.size=16/\∀k,k<16->T[k]?=some (.int .u64 (zs.getD (F*16+k) 0)))/\Below w.heap.size w w':=by
 have a1:(0:Int)<=F*16:=by omega
 have a2:(F:Int)*16<=(F+1)*16:=by omega
 have a3:((F:Int)+1)*16<=c:=by omega
 have hgl:=hg.lt;have hat:∀w,(Instr.arrayAt 226 (.slice (some ⟨g,F*16,none⟩) ((F+1)*16-F*16) (c-F*16))).run prog w=.ok (.pointer (some ⟨g,F*16,none⟩)) w:=fun w=>run_arrayAt w 226 _ 16 _ _ _ underlying226 (by omega)
 have w0:=hg.cell (i:=F*16) (by omega);have w1:=hg.cell (i:=F*16+1) (by omega);have w2:=hg.cell (i:=F*16+2) (by omega);have w3:=hg.cell (i:=F*16+3) (by omega);have w4:=hg.cell (i:=F*16+4) (by omega);have w5:=hg.cell (i:=F*16+5) (by omega);have w6:=hg.cell (i:=F*16+6) (by omega);have w7:=hg.cell (i:=F*16+7) (by omega);have w8:=hg.cell (i:=F*16+8) (by omega);have w9:=hg.cell (i:=F*16+9) (by omega);have w10:=hg.cell (i:=F*16+10) (by omega);have w11:=hg.cell (i:=F*16+11) (by omega);have w12:=hg.cell (i:=F*16+12) (by omega);have w13:=hg.cell (i:=F*16+13) (by omega);have w14:=hg.cell (i:=F*16+14) (by omega);have w15:=hg.cell (i:=F*16+15) (by omega);clear hg;go_enter func165,ntmps165
 go_wp2
 refine bodyPost_ret (v:=.agg #[.int .u64 (zs.getD (F*16+0) 0),.int .u64 (zs.getD (F*16+1) 0),.int .u64 (zs.getD (F*16+2) 0),.int .u64 (zs.getD (F*16+3) 0),.int .u64 (zs.getD (F*16+4) 0),.int .u64 (zs.getD (F*16+5) 0),.int .u64 (zs.getD (F*16+6) 0),.int .u64 (zs.getD (F*16+7) 0),.int .u64 (zs.getD (F*16+8) 0),.int .u64 (zs.getD (F*16+9) 0),.int .u64 (zs.getD (F*16+10) 0),.int .u64 (zs.getD (F*16+11) 0),.int .u64 (zs.getD (F*16+12) 0),.int .u64 (zs.getD (F*16+13) 0),.int .u64 (zs.getD (F*16+14) 0),.int .u64 (zs.getD (F*16+15) 0)]) (by simp[results,results165,go_sem]) rfl ⟨⟨_,rfl,rfl,?_⟩,((Below.refl _ _).alloc (Nat.le_refl _) _).alloc (by simp) _⟩;intro k hk;match k,hk with
 | 0,_=>rfl
 | 1,_=>rfl
 | 2,_=>rfl
 | 3,_=>rfl
 | 4,_=>rfl
 | 5,_=>rfl
 | 6,_=>rfl
 | 7,_=>rfl
 | 8,_=>rfl
 | 9,_=>rfl
 | 10,_=>rfl
 | 11,_=>rfl
 | 12,_=>rfl
 | 13,_=>rfl
 | 14,_=>rfl
 | 15,_=>rfl
 | k+16,h=>omega
theorem Gg(T:Array Value)(k:Nat)(hk:k<16)(x:Int)(hT:T[k]?=some (.int .u64 x))(w:World):(Instr.index 226 (.agg T) (.int .i64 (k:Int))).run prog w=.ok (.int .u64 x) w:=by
 obtain⟨i,hi,h1,h2,h3⟩:=info_parts GH;simp[Instr.index,run_underlying underlying226,sizeOf,typeInfo,hi,h2,part,hT,asIntOf,hk]
def Ms (w:World) (B:Nat) (v:Value) (L:List P3) (e:Ending) (w':World):Prop :=
 ∃g' c',e=.returned (.slice (some ⟨g',0,none⟩) L.length c')/\BK w' B (.slice (some ⟨g',0,none⟩) L.length c') L/\w.grownBy w' v.ownBlock/\(v.ownBlock=some g'\/w.heap.size<=g')
theorem DR{w w' w'':World}{row:Option Nat}(h:w.grownBy w' row)(hb:Below w'.heap.size w' w''):w.grownBy w'' row :=
 ⟨hb.os.trans h.os,hb.tape.trans h.tape,hb.output.trans h.output,Nat.le_trans h.size hb.size,fun k hk hne=>(hb.block k (Nat.lt_of_lt_of_le hk h.size)).trans (h.block k hk hne)⟩
theorem Lk(g:Nat)(zs:List Int)(c:Nat)(p:P3)(hl:p.lv=3)(B:Nat)(hgB:g<B)(Q:Nat)(hQ:Q<=100000)(v:Value)(qs:List P3)(hqs:qs.length<=Q)(w:World)(hg:Bj w g zs)(hBw:B<=w.heap.size)(hv:BK w B v qs):Calls prog 161 #[v,.agg #[.slice (some ⟨g,0,none⟩) zs.length c],.agg #[.int .i64 p.fr,.int .i64 p.lv,.int .i64 p.pg]] w fun e w'=>Ms w B v (qs++[p]) e w':=by
 obtain⟨i0,hi,hz0,hz1,hz2⟩:=info_parts Em;have hvl:∀q,v.ownBlock=some q->B<=q/\q<w.heap.size:=World.ownsRow.lt hv
 have HV:Hid (BK w B v qs):=hv;have HVL:Hid _:=hvl;have HG:Hid (Bj w g zs):=hg;have HL:Hid (p.lv=3):=hl;clear hv hvl hg hl;go_enter func161,ntmps161
 go_wp2_with (at_builtin;refine wpList_append_lies _ rfl (.tmp 11) (.tmp 13) 168 rfl B 172 i0 _ 3 24 underlying168 hi hz0 hz1 hz2 rfl (by omega) _ _ _ rfl (World.ownsRow.alloc (World.ownsRow.alloc (World.ownsRow.alloc HV.out _) _) _) ⟨w.heap.size+1+1,0,none⟩ 1 1 [.int .i64 p.fr,.int .i64 p.lv,.int .i64 p.pg] rfl rfl ?c1 ?c2 (by omega) ?c3 ?c4 ?c5 (w.heap.size+3) ?c6 ?_)
 case c1 =>
  have:=World.news_of_block (heap_alloc_new ((w.alloc (.cells #[.slice (some ⟨g,0,none⟩) zs.length c] 31)).alloc (.cells #[.int .i64 p.fr,.int .i64 p.lv,.int .i64 p.pg] 172)) (.cells #[.int .i64 p.fr,.int .i64 p.lv,.int .i64 p.pg] 172));simpa using this
 case c2=>intro u hu;simp at hu;rcases hu with rfl|rfl|rfl<;>rfl
 case c3=>unfold maxLen;omega
 case c4=>omega
 case c5=>simp;omega
 case c6=>simp
 intro g1 cap1 wn hown hgrow hat hlt3;have hsn:=hgrow.size;simp at hsn;have hnew:BK wn B (.slice (some ⟨g1,0,none⟩) (qs.length+1) cap1) (qs++[p]):=by
  unfold BK;rw[List.length_append,DX];exact hown
 have hvne:∀k,w.heap.size<=k->some k≠v.ownBlock:=fun k hk h=>by have:=HVL.out k h.symm;omega
 have hgw:w.grownBy wn v.ownBlock:=by
  refine⟨hgrow.os,hgrow.tape,hgrow.output,by omega,fun k hk hne=>?_⟩;rw[hgrow.block k (by simp;omega) hne,Below.heap_alloc _ _ _ (by simp;omega),Below.heap_alloc _ _ _ (by simp;omega),Below.heap_alloc _ _ _ hk]
 have b0:wn.cell? ⟨w.heap.size,0,none⟩=some (.slice (some ⟨g,0,none⟩) zs.length c):=by
  rw[World.cell?_of_block (hgrow.block w.heap.size (by simp;omega) (hvne _ (Nat.le_refl _)))];simp[go_sem]
 have b1:wn.cell? ⟨w.heap.size+1,0,none⟩=some (.int .i64 p.fr):=by
  rw[World.cell?_of_block (hgrow.block (w.heap.size+1) (by simp) (hvne _ (by omega)))];simp[go_sem]
 have b2:wn.cell? ⟨w.heap.size+1,1,none⟩=some (.int .i64 p.lv):=by
  rw[World.cell?_of_block (hgrow.block (w.heap.size+1) (by simp) (hvne _ (by omega)))];simp[go_sem]
 have b3:wn.cell? ⟨w.heap.size+1,2,none⟩=some (.int .i64 p.pg):=by
  rw[World.cell?_of_block (hgrow.block (w.heap.size+1) (by simp) (hvne _ (by omega)))];simp[go_sem]
 have hgv:some g≠v.ownBlock:=fun h=>by have:=HVL.out g h.symm;omega
 have hgn:Bj wn g zs:=Bj.of_block HG.out (hgw.block g HG.out.lt hgv);have hat':v.ownBlock=some g1\/w.heap.size+2<=g1:=hat.elim .inl (fun h=>.inr (by omega));have h3:(p.lv==3)=true:=by simp[HL.out]
 have HNEW:Hid (BK _ _ _ _):=hnew;have HGW:Hid (w.grownBy wn _):=hgw;have HAT:Hid (_\/_):=hat';clear hown hgrow hat hnew hgw hat' hgn hvne hgv;go_wp2_with fail
 go_ret;exact⟨g1,cap1,by rw[List.length_append];rfl,by rw[List.length_append];exact HNEW.out,HGW.out,HAT.out.elim .inl (fun h=>.inr (by omega))⟩
theorem Ls(g:Nat)(zs:List Int)(c:Nat)(p:P3)(F:Nat)(hF:p.fr=F)(hF2:F*16+16<=zs.length)(hlen:zs.length<=8192)(hcc:zs.length<=c)(hl1:1<=p.lv)(hl2:p.lv<3)(hp0:0<=p.pg)(hp1:p.pg<=4096*p.lv)(rec:P3->List P3)(hB:∀q,(rec q).length<=300)(n:Int)(hn:n*16=zs.length)(hd:∀i,i<16->∀w,Calls prog 133 #[.int .i64 p.lv,.int .u64 (Af zs p.fr i)] w fun e w'=>e=.returned (.agg #[.int .i64 (AZ p.lv (Af zs p.fr i)),.int .i64 (Bz p.lv (Af zs p.fr i)),.int .i64 (Bq p.lv (Af zs p.fr i))])/\Below w.heap.size w w')(B:Nat)(hgB:g<B)(Q:Nat)(hQ:Q<=100000)(ih:∀i w v qs,i<16->Ea zs n p i=true->Bj w g zs->B<=w.heap.size->qs.length<=Q+5000->BK w B v qs->Calls prog 161 #[v,.agg #[.slice (some ⟨g,0,none⟩) zs.length c],.agg #[.int .i64 (under zs p i).fr,.int .i64 (under zs p i).lv,.int .i64 (under zs p i).pg]] w fun e w'=>Ms w B v (qs++rec (under zs p i)) e w')(v:Value)(qs:List P3)(hqs:qs.length<=Q)(w:World)(hg:Bj w g zs)(hBw:B<=w.heap.size)(hv:BK w B v qs):Calls prog 161 #[v,.agg #[.slice (some ⟨g,0,none⟩) zs.length c],.agg #[.int .i64 p.fr,.int .i64 p.lv,.int .i64 p.pg]] w fun e w'=>Ms w B v (qs++Ak zs n rec p 16) e w':=by
 obtain⟨i0,hi,hz0,hz1,hz2⟩:=info_parts Em;have hvl:∀q,v.ownBlock=some q->B<=q/\q<w.heap.size:=World.ownsRow.lt hv
 have HV:Hid (BK w B v qs):=hv;have HVL:Hid _:=hvl;have HIH:Hid _:=ih;have HD:Hid _:=hd;have HF:Hid (p.fr=F):=hF;have HG:Hid (Bj w g zs):=hg;clear hv hvl ih hd hF hg;go_enter func161,ntmps161
 go_wp2_with (at_builtin;refine wpList_append_lies _ rfl (.tmp 11) (.tmp 13) 168 rfl B 172 i0 _ 3 24 underlying168 hi hz0 hz1 hz2 rfl (by omega) _ _ _ rfl (World.ownsRow.alloc (World.ownsRow.alloc (World.ownsRow.alloc HV.out _) _) _) ⟨w.heap.size+1+1,0,none⟩ 1 1 [.int .i64 p.fr,.int .i64 p.lv,.int .i64 p.pg] rfl rfl ?c1 ?c2 (by omega) ?c3 ?c4 ?c5 (w.heap.size+3) ?c6 ?_)
 case c1 =>
  have:=World.news_of_block (heap_alloc_new ((w.alloc (.cells #[.slice (some ⟨g,0,none⟩) zs.length c] 31)).alloc (.cells #[.int .i64 p.fr,.int .i64 p.lv,.int .i64 p.pg] 172)) (.cells #[.int .i64 p.fr,.int .i64 p.lv,.int .i64 p.pg] 172));simpa using this
 case c2=>intro u hu;simp at hu;rcases hu with rfl|rfl|rfl<;>rfl
 case c3=>unfold maxLen;omega
 case c4=>omega
 case c5=>simp;omega
 case c6=>simp
 intro g1 cap1 wn hown hgrow hat hlt3;have hsn:=hgrow.size;simp at hsn;have hnew:BK wn B (.slice (some ⟨g1,0,none⟩) (qs.length+1) cap1) (qs++Ak zs n rec p 0):=by
  unfold BK;rw[GE,List.length_append,DX];exact hown
 have hvne:∀k,w.heap.size<=k->some k≠v.ownBlock:=fun k hk h=>by have:=HVL.out k h.symm;omega
 have hgw:w.grownBy wn v.ownBlock:=by
  refine⟨hgrow.os,hgrow.tape,hgrow.output,by omega,fun k hk hne=>?_⟩;rw[hgrow.block k (by simp;omega) hne,Below.heap_alloc _ _ _ (by simp;omega),Below.heap_alloc _ _ _ (by simp;omega),Below.heap_alloc _ _ _ hk]
 have b0:wn.cell? ⟨w.heap.size,0,none⟩=some (.slice (some ⟨g,0,none⟩) zs.length c):=by
  rw[World.cell?_of_block (hgrow.block w.heap.size (by simp;omega) (hvne _ (Nat.le_refl _)))];simp[go_sem]
 have b1:wn.cell? ⟨w.heap.size+1,0,none⟩=some (.int .i64 p.fr):=by
  rw[World.cell?_of_block (hgrow.block (w.heap.size+1) (by simp) (hvne _ (by omega)))];simp[go_sem]
 have b2:wn.cell? ⟨w.heap.size+1,1,none⟩=some (.int .i64 p.lv):=by
  rw[World.cell?_of_block (hgrow.block (w.heap.size+1) (by simp) (hvne _ (by omega)))];simp[go_sem]
 have b3:wn.cell? ⟨w.heap.size+1,2,none⟩=some (.int .i64 p.pg):=by
  rw[World.cell?_of_block (hgrow.block (w.heap.size+1) (by simp) (hvne _ (by omega)))];simp[go_sem]
 have hgv:some g≠v.ownBlock:=fun h=>by have:=HVL.out g h.symm;omega
 have hgn:Bj wn g zs:=Bj.of_block HG.out (hgw.block g HG.out.lt hgv);have hat':v.ownBlock=some g1\/w.heap.size+2<=g1:=hat.elim .inl (fun h=>.inr (by omega));rw[HF.out] at b1;have HNEW:Hid (BK _ _ _ _):=hnew;have HGW:Hid (w.grownBy wn _):=hgw;have HAT:Hid (_\/_):=hat';have HGN:Hid (Bj wn g zs):=hgn;have HVNE:Hid _:=hvne;have HGV:Hid _:=hgv;have htab:=Ia g zs c F hF2 hlen hcc wn hgn;have hne3:(p.lv==3)=false:=by simp;omega
 clear hown hgrow hat hnew hgw hat' hgn hvne hgv;go_wp2_with fail
 refine htab.mono ?_;rintro e wt ⟨⟨T,rfl,hTs,hT⟩,hbt⟩;have hst:=hbt.size;have t0:=(hbt.cell (p:=⟨w.heap.size,0,none⟩) (by simp;omega)).trans b0;have t1:=(hbt.cell (p:=⟨w.heap.size+1,0,none⟩) (by simp;omega)).trans b1;have t2:=(hbt.cell (p:=⟨w.heap.size+1,1,none⟩) (by simp;omega)).trans b2;have t3:=(hbt.cell (p:=⟨w.heap.size+1,2,none⟩) (by simp;omega)).trans b3;have HST:Hid (BK wt B (.slice (some ⟨g1,0,none⟩) (qs.length+1) cap1) (qs++Ak zs n rec p 0)/\w.grownBy wt v.ownBlock/\w.heap.size+2<=wt.heap.size/\wt.cell? ⟨w.heap.size,0,none⟩=some (.slice (some ⟨g,0,none⟩) zs.length c)/\wt.cell? ⟨w.heap.size+1,0,none⟩=some (.int .i64 F)/\wt.cell? ⟨w.heap.size+1,1,none⟩=some (.int .i64 p.lv)/\wt.cell? ⟨w.heap.size+1,2,none⟩=some (.int .i64 p.pg)) :=
  ⟨HNEW.out.below hbt,DR HGW.out hbt,by omega,t0,t1,t2,t3⟩
 have HT:Hid _:=hT;clear htab hbt t0 t1 t2 t3 b0 b1 b2 b3 hT hst;go_wp2_with fail
 go_loopw [0,23] (fun v0 iv wr=>∃k gv cv:Nat,k<=16/\iv=.int .i64 k/\v0=.slice (some ⟨gv,0,none⟩) (qs++Ak zs n rec p k).length cv/\BK wr B (.slice (some ⟨gv,0,none⟩) (qs++Ak zs n rec p k).length cv) (qs++Ak zs n rec p k)/\(v.ownBlock=some gv\/w.heap.size+2<=gv)/\w.grownBy wr v.ownBlock/\w.heap.size+2<=wr.heap.size/\wr.cell? ⟨w.heap.size,0,none⟩=some (.slice (some ⟨g,0,none⟩) zs.length c)/\wr.cell? ⟨w.heap.size+1,0,none⟩=some (.int .i64 F)/\wr.cell? ⟨w.heap.size+1,1,none⟩=some (.int .i64 p.lv)/\wr.cell? ⟨w.heap.size+1,2,none⟩=some (.int .i64 p.pg)) (fun _ iv _=>16-(intOf iv).toNat)
 case atStart =>
  obtain⟨s1,s2,s3,s4,s5,s6,s7⟩:=HST.out;have el:(qs++Ak zs n rec p 0).length=qs.length+1:=by rw[GE,List.length_append];rfl
  exact⟨0,g1,cap1,by omega,rfl,by rw[el],by rw[el];exact s1,HAT.out,s2,s3,s4,s5,s6,s7⟩
 case round =>
  obtain⟨k,gv,cv,hk,rfl,rfl,hrow,hat,hgr,hsz,c0,c1,c2,c3⟩:=hrel;have hBL:=D0 zs n rec p 300 hB k;by_cases hlt:k<16
  ·have hgn:Bj wr g zs:=Bj.of_block HG.out (hgr.block g HG.out.lt HGV.out);have hTk:=HT.out k hlt;(have ew:zs.getD (F*16+k) 0=Af zs p.fr k:=by simp[Af,HF.out];congr 1);rw[ew] at hTk;have hdk:=HD.out k hlt;have dO:=Cp p.lv (Af zs p.fr k);have hdd:=El zs n rec p k;have hih:=HIH.out k;unfold under at hih hdd;unfold Ea at hih hdd;have HDD:Hid _:=hdd;have HIK:Hid _:=hih;have HRW:Hid (BK _ _ _ _):=hrow;have HGR:Hid (w.grownBy wr _):=hgr;have HGN2:Hid (Bj _ _ _):=hgn;have HATk:Hid (_\/_):=hat;clear ew hdd hih hrow hgr hgn hat;generalize Af zs p.fr k=X at *;generalize AZ p.lv X=K at *;generalize Bz p.lv X=O at *;generalize Bq p.lv X=M at *;(have L1:(0:Int)<=(k:Int):=by omega);(have L2:(k:Int)<16:=by omega);have hix:=Gg T k hlt X hTk;have hfr:=D8 (some ⟨g,0,none⟩) zs.length c O n hn dO.1 hlen;clear hTk hTs;(go_wp2_with fail);refine(hdk wr).mono ?_;rintro e w1 ⟨rfl,hb1⟩;have hs1:=hb1.size;have e0:=(hb1.cell (p:=⟨w.heap.size,0,none⟩) (by simp;omega)).trans c0;have e1:=(hb1.cell (p:=⟨w.heap.size+1,0,none⟩) (by simp;omega)).trans c1;have e2:=(hb1.cell (p:=⟨w.heap.size+1,1,none⟩) (by simp;omega)).trans c2;have e3:=(hb1.cell (p:=⟨w.heap.size+1,2,none⟩) (by simp;omega)).trans c3;(have N1:w.heap.size<w1.heap.size:=by omega);(have N2:w.heap.size+1<w1.heap.size:=by omega);have HB1:Hid (Below _ _ _):=hb1;clear c0 c1 c2 c3 hdk hix hb1;by_cases hK:K=1
   ·subst hK;by_cases hO:O<n
    ·(have hO':decide (O<n)=true:=by simpa using hO);rw[hO'] at hfr;have hcov:=Bc p.lv;have hC0:=Ek p.lv;have hrec:=HIK.out;simp only[hO',decide_true,Bool.and_true] at hrec;have hx:Ak zs n rec p (k+1)=Ak zs n rec p k++rec ⟨O,p.lv+1,p.pg+k*Ab p.lv⟩:=by
      have h:=HDD.out;rw[hO'] at h;simpa using h
     have hRB:=hB ⟨O,p.lv+1,p.pg+k*Ab p.lv⟩;have HX:Hid _:=hx;generalize Ab p.lv=C at *;have y0:0<=(k:Int)*C:=Int.mul_nonneg (by omega) hC0.1;have y1:(k:Int)*C<=15*256:=Int.mul_le_mul (by omega) hC0.2 hC0.1 (by omega);(have Wy:IntKind.i64.wrap ((k:Int)*C)=(k:Int)*C:=by rw[IntKind.wrap_i64];omega);(have Wz:IntKind.i64.wrap (p.pg+(k:Int)*C)=p.pg+(k:Int)*C:=by rw[IntKind.wrap_i64];omega);(have Wl:IntKind.i64.wrap (p.lv+1)=p.lv+1:=by rw[IntKind.wrap_i64];omega);have HREC:Hid _:=hrec;clear hx hrec HDD HIK HIH HD;(go_upto_region 9 with(go_at_call 127;refine(hfr _).mono ?_;rintro e w4 ⟨rfl,hb4⟩));have hs4:=hb4.size;simp at hs4;have hb14:Below wr.heap.size wr w4:=(HB1.out.alloc hs1 _).trans (hb4.mono (by simp;omega));(have d1:w4.cell? ⟨w1.heap.size,1,none⟩=some (.int .i64 O):=by rw[hb4.cell (by simp)];simp[go_sem]);(have e0':w4.cell? ⟨w.heap.size,0,none⟩=some (.slice (some ⟨g,0,none⟩) zs.length c):=by rw[hb4.cell (by simp;omega)];simp[go_sem,e0,N1]);(have e1':w4.cell? ⟨w.heap.size+1,0,none⟩=some (.int .i64 F):=by rw[hb4.cell (by simp;omega)];simp[go_sem,e1,N2]);(have e2':w4.cell? ⟨w.heap.size+1,1,none⟩=some (.int .i64 p.lv):=by rw[hb4.cell (by simp;omega)];simp[go_sem,e2,N2]);(have e3':w4.cell? ⟨w.heap.size+1,2,none⟩=some (.int .i64 p.pg):=by rw[hb4.cell (by simp;omega)];simp[go_sem,e3,N2]);have HB14:Hid (Below _ _ _):=hb14;clear e0 e1 e2 e3 hfr hb4 hb14;(go_cut [10] (fun d10 wx=>∃E,d10=.pointer (some ⟨E,0,none⟩)/\wx.cell? ⟨E,0,none⟩=some (.int .i64 O)/\wx.cell? ⟨E,1,none⟩=some (.int .i64 (p.lv+1))/\wx.cell? ⟨E,2,none⟩=some (.int .i64 (p.pg+(k:Int)*C))/\E<wx.heap.size/\Below w4.heap.size w4 wx));case first =>
      have HK:Hid (∀wX,Below w4.heap.size w4 wX->wX.cell? ⟨w1.heap.size,1,none⟩=some (.int .i64 O)/\wX.cell? ⟨w.heap.size+1,1,none⟩=some (.int .i64 p.lv)/\wX.cell? ⟨w.heap.size+1,2,none⟩=some (.int .i64 p.pg)) :=
       fun wX h=>⟨(h.cell (by first|omega|(simp<;>omega))).trans d1,(h.cell (by first|omega|(simp<;>omega))).trans e2',(h.cell (by first|omega|(simp<;>omega))).trans e3'⟩
      go_region_held3 (fun w'=>w'.cell? ⟨w1.heap.size,1,none⟩=some (.int .i64 O)/\w'.cell? ⟨w.heap.size+1,1,none⟩=some (.int .i64 p.lv)/\w'.cell? ⟨w.heap.size+1,2,none⟩=some (.int .i64 p.pg))
       ((refine HK.out _ ?_;repeat (first|exact Below.refl _ _|with_reducible refine Below.drew ?_|with_reducible refine Below.setCell ?_ (by first|omega|(simp<;>omega)) _|with_reducible refine Below.alloc ?_ (by first|omega|(simp<;>omega)) _)))
       (first|(go_at_call 128;refine(hcov _).mono ?_;rintro e w3 ⟨rfl,rfl⟩))
      all_goals
       go_wp2_with fail
       go_meet
       case rel =>
        refine⟨_,rfl,?_,?_,?_,?_,?_⟩
        ·simp[go_sem]
        ·simp[go_sem]
        ·simp[go_sem]
        ·first|omega|(simp<;>omega)
        ·repeat (first|exact Below.refl _ _|with_reducible refine Below.drew ?_|with_reducible refine Below.setCell ?_ (by first|omega|(simp<;>omega)) _|with_reducible refine Below.alloc ?_ (by first|omega|(simp<;>omega)) _)
     case rest =>
      obtain⟨E,rfl,f0,f1,f2,hE,hbE⟩:=hcut;have g0:=(hbE.cell (p:=⟨w.heap.size,0,none⟩) (by simp;omega)).trans e0';have g1':=(hbE.cell (p:=⟨w.heap.size+1,0,none⟩) (by simp;omega)).trans e1';have g2:=(hbE.cell (p:=⟨w.heap.size+1,1,none⟩) (by simp;omega)).trans e2';have g3:=(hbE.cell (p:=⟨w.heap.size+1,2,none⟩) (by simp;omega)).trans e3';have hbc:Below wr.heap.size wr wc:=HB14.out.trans (hbE.mono (by omega));have hsc:=hbc.size;have hrw:BK wc B (.slice (some ⟨gv,0,none⟩) (qs.length+(Ak zs n rec p k).length) cv) (qs++Ak zs n rec p k):=by
       have:=HRW.out.below hbc;rwa [List.length_append] at this
      have hgc:Bj wc g zs:=HGN2.out.below hbc HGN2.out.lt;have hrec:=HREC.out wc (.slice (some ⟨gv,0,none⟩) (qs.length+(Ak zs n rec p k).length) cv) (qs++Ak zs n rec p k) hlt trivial hgc (by omega) (by rw[List.length_append];omega) hrw;have HBC:Hid (Below _ _ _):=hbc;have Hbox:Hid (wc.cell? ⟨w.heap.size,0,none⟩=some (.slice (some ⟨g,0,none⟩) zs.length c)/\wc.cell? ⟨w.heap.size+1,0,none⟩=some (.int .i64 F)/\wc.cell? ⟨w.heap.size+1,1,none⟩=some (.int .i64 p.lv)/\wc.cell? ⟨w.heap.size+1,2,none⟩=some (.int .i64 p.pg)):=⟨g0,g1',g2,g3⟩;clear e0' e1' e2' e3' d1 hbE hcov Wy Wz Wl hrw hgc hbc HREC;(go_wp2_with fail);refine hrec.mono ?_;rintro e w5 ⟨g5,c5,rfl,hp5,hgr5,hat5⟩;have hgr5':wc.grownBy w5 (some gv):=hgr5;have hat5':gv=g5\/wc.heap.size<=g5:=by
       rcases hat5 with h|h
       ·exact .inl (by simpa [Value.ownBlock] using h)
       ·exact .inr h
      (have hgvl:∀q,v.ownBlock=some q->q<w.heap.size:=fun q hq=>(HVL.out q hq).2);have hgv0:gv≠w.heap.size/\gv≠w.heap.size+1:=by
       rcases HATk.out with h|h
       ·have:=hgvl gv h;omega
       ·omega
      have hs5:=hgr5'.size;obtain⟨g0,g1',g2,g3⟩:=Hbox.out;have k0:w5.cell? ⟨w.heap.size,0,none⟩=some (.slice (some ⟨g,0,none⟩) zs.length c):=by
       rw[World.cell?_of_block (hgr5'.block w.heap.size (by omega) (by simp only[ne_eq,Option.some.injEq];omega))];exact g0
      have k1:w5.cell? ⟨w.heap.size+1,0,none⟩=some (.int .i64 F):=by
       rw[World.cell?_of_block (hgr5'.block (w.heap.size+1) (by omega) (by simp only[ne_eq,Option.some.injEq];omega))];exact g1'
      have k2:w5.cell? ⟨w.heap.size+1,1,none⟩=some (.int .i64 p.lv):=by
       rw[World.cell?_of_block (hgr5'.block (w.heap.size+1) (by omega) (by simp only[ne_eq,Option.some.injEq];omega))];exact g2
      have k3:w5.cell? ⟨w.heap.size+1,2,none⟩=some (.int .i64 p.pg):=by
       rw[World.cell?_of_block (hgr5'.block (w.heap.size+1) (by omega) (by simp only[ne_eq,Option.some.injEq];omega))];exact g3
      have hgw5:w.grownBy w5 v.ownBlock:=by
       have h1:=DR HGR.out HBC.out;refine⟨hgr5'.os.trans h1.os,hgr5'.tape.trans h1.tape,hgr5'.output.trans h1.output,by omega,fun q hq hne=>?_⟩;refine(hgr5'.block q (by omega) ?_).trans (h1.block q hq hne);intro e5;simp only[Option.some.injEq] at e5;rcases HATk.out with h|h
       ·exact hne (by rw[h,e5])
       ·omega
      have hat6:v.ownBlock=some g5\/w.heap.size+2<=g5:=by
       rcases hat5' with h|h
       ·rw[<- h];exact HATk.out
       ·exact .inr (by omega)
      have HP5:Hid (BK _ _ _ _):=hp5;have HAT6:Hid (_\/_):=hat6;have HGW5:Hid (w.grownBy w5 _):=hgw5;clear hp5 hgr5 hgr5' hat5 hat5' hat6 hgw5 hrec g0 g1' g2 g3 hgv0 hgvl;(go_wp2_with fail);go_roundw;case rel =>
       refine⟨k+1,g5,c5,by omega,by go_num,?_⟩;rw[HX.out,<- List.append_assoc];exact⟨by first|rfl|simp,HP5.out,HAT6.out,HGW5.out,by omega,k0,k1,k2,k3⟩
      case measure=>simp[intOf];omega
    ·(have hO':decide (O<n)=false:=by simpa using hO);rw[hO'] at hfr;have hx:Ak zs n rec p (k+1)=Ak zs n rec p k:=by
      have h:=HDD.out;rw[hO'] at h;simpa using h
     have HX:Hid _:=hx;clear hx;(go_wp2_with (go_at_call 127;refine(hfr _).mono ?_;rintro e w4 ⟨rfl,hb4⟩));go_roundw;case rel =>
      have hb14:Below wr.heap.size wr w4:=(HB1.out.alloc hs1 _).trans (hb4.mono (by simp;omega));refine⟨k+1,gv,cv,by omega,by go_num,?_⟩;rw[HX.out]
      exact⟨by rw[List.length_append],HRW.out.below hb14,HATk.out,DR HGR.out hb14,by have:=hb14.size;omega,
       by rw[hb4.cell (by simp;omega)];simp[go_sem,e0,N1],by rw[hb4.cell (by simp;omega)];simp[go_sem,e1,N2],by rw[hb4.cell (by simp;omega)];simp[go_sem,e2,N2],by rw[hb4.cell (by simp;omega)];simp[go_sem,e3,N2]⟩
     case measure=>simp[intOf];omega
   ·(have hK':(K==1)=false:=by simpa using hK);have hx:Ak zs n rec p (k+1)=Ak zs n rec p k:=by
     have h:=HDD.out;simp only[hK,decide_false,Bool.false_and] at h;simpa using h
    have HX:Hid _:=hx;clear hx hK;(go_wp2_with fail);go_roundw;case rel =>
     have hb14:Below wr.heap.size wr (w1.alloc (.cells #[.int .i64 K,.int .i64 O,.int .i64 M] 185)):=HB1.out.alloc hs1 _;refine⟨k+1,gv,cv,by omega,by go_num,?_⟩;rw[HX.out]
     exact⟨by rw[List.length_append],HRW.out.below hb14,HATk.out,DR HGR.out hb14,by have:=hb14.size;omega,
      by simp[go_sem,e0,N1],by simp[go_sem,e1,N2],by simp[go_sem,e2,N2],by simp[go_sem,e3,N2]⟩
    case measure=>simp[intOf];omega
  ·(have e:k=16:=by omega);subst e;(go_wp2_with fail);go_ret;exact⟨gv,cv,by rw[List.length_append];rfl,hrow,hgr,hat.elim .inl (fun h=>.inr (by omega))⟩
end Go.Proofs.YtnmhkgmmpkjjeabGreat
