import Derived.Test.YtnmhkgmmpkjjeaaGreatM22
import Derived.Test.YtnmhkgmmpkjjeaaGreatM15
import Derived.Test.YtnmhkgmmpkjjeaaGreatM20
namespace Go.Proofs.YtnmhkgmmpkjjeaaGreat
open ChangeShapes WideShapes ChangeAt RowKit Proofs.Tryz
set_option linter.all false
set_option maxRecDepth 100000
section
attribute [local go_sem ↓] wp_at_zero wp_at_succ
def Fk:Dw P3:=⟨67,3,fun p=>[.int .i64 p.fr,.int .i64 p.lv,.int .i64 p.pg],⟨0,0,0⟩,by omega,fun _=>rfl⟩
theorem BE.e{w:World}{b:Nat}{v:Value}{ps:List P3}(h:BE w b v ps):A8 Fk w b v ps:=h
theorem A8.p{w:World}{b:Nat}{v:Value}{ps:List P3}(h:A8 Fk w b v ps):BE w b v ps:=h
theorem Hv{w:World}{b g c:Nat}{ps:List P3}(h:A8 Fk w b (.slice (some ⟨g,0,none⟩) ps.length c) ps)(i:Nat)(hi:i<ps.length):g<w.heap.size/\w.cell? ⟨g,i*3,none⟩=some (.int .i64 (Aq ps i).fr)/\w.cell? ⟨g,i*3+1,none⟩=some (.int .i64 (Aq ps i).lv)/\w.cell? ⟨g,i*3+2,none⟩=some (.int .i64 (Aq ps i).pg):=by
 obtain⟨a,c',e,h1⟩:=h.form;obtain⟨g',N,f,e2,_,hr,hN,hf⟩:=h1 (by omega);have hN':ps.length*3<=N:=hN;simp only[Value.slice.injEq] at e;obtain⟨e,_,_⟩:=e;rw[e2] at e;simp only[Option.some.injEq,Addr.mk.injEq,and_true] at e;subst e;refine⟨hr.lt,?_,?_,?_⟩
 ·rw[hr.cell (i:=i*3) (by omega)];exact congrArg some (hf i hi 0 (by decide))
 ·rw[hr.cell (i:=i*3+1) (by omega)];exact congrArg some (hf i hi 1 (by decide))
 ·rw[hr.cell (i:=i*3+2) (by omega)];exact congrArg some (hf i hi 2 (by decide))
theorem Sn{w:World}{b g c:Nat}{es:List En}(h:A8 P7 w b (.slice (some ⟨g,0,none⟩) es.length c) es)(i:Nat)(hi:i<es.length):g<w.heap.size/\w.cell? ⟨g,i*3,none⟩=some (.int .i64 (AQ P7 es i).lv)/\w.cell? ⟨g,i*3+1,none⟩=some (.int .i64 (AQ P7 es i).pg)/\w.cell? ⟨g,i*3+2,none⟩=some (.int .i64 (AQ P7 es i).ad):=by
 obtain⟨a,c',e,h1⟩:=h.form;obtain⟨g',N,f,e2,_,hr,hN,hf⟩:=h1 (by omega);have hN':es.length*3<=N:=hN;simp only[Value.slice.injEq] at e;obtain⟨e,_,_⟩:=e;rw[e2] at e;simp only[Option.some.injEq,Addr.mk.injEq,and_true] at e;subst e;refine⟨hr.lt,?_,?_,?_⟩
 ·rw[hr.cell (i:=i*3) (by omega)];exact congrArg some (hf i hi 0 (by decide))
 ·rw[hr.cell (i:=i*3+1) (by omega)];exact congrArg some (hf i hi 1 (by decide))
 ·rw[hr.cell (i:=i*3+2) (by omega)];exact congrArg some (hf i hi 2 (by decide))
theorem Pd(g c b:Nat)(Hs:List Ht)(lv p:Nat)(w:World)(hl:Hs.length=4096)(h1:1<=lv)(h3:lv<=3)(hp:p+Ga lv<=4096)(h:A8 Dx w b (.slice (some ⟨g,0,none⟩) Hs.length c) Hs):Calls prog 73 #[.slice (some ⟨g,0,none⟩) 4096 c,.int .i64 lv,.int .i64 p] w (AM w (.bool (nd (hF Hs) lv p))):=by
 rcases(show lv=1\/lv=2\/lv=3 by omega) with rfl|rfl|rfl
 ·rw[Fe];exact PQ _ _ w
 ·exact Md g c b Hs p w hl hp h
 ·exact Mb g c b Hs p w hl hp h
structure Gb {α β:Type} (E:Dw α) (F:Dw β) (w wr:World) (v1 v2:Value) (l1:List α) (l2:List β):Prop where
 rows:∃g1 c1 g2 c2:Nat,v1=.slice (some ⟨g1,0,none⟩) l1.length c1/\v2=.slice (some ⟨g2,0,none⟩) l2.length c2/\A8 E wr w.heap.size (.slice (some ⟨g1,0,none⟩) l1.length c1) l1/\A8 F wr w.heap.size (.slice (some ⟨g2,0,none⟩) l2.length c2) l2/\g1≠g2
 bel:Bl w wr
theorem Gb.below{α β:Type}{E:Dw α}{F:Dw β}{w wr w1:World}{v1 v2:Value}{l1:List α}{l2:List β}(h:Gb E F w wr v1 v2 l1 l2)(hb:Bl wr w1):Gb E F w w1 v1 v2 l1 l2:=by
 obtain⟨⟨g1,c1,g2,c2,e1,e2,h1,h2,hne⟩,hbel⟩:=h;exact⟨⟨g1,c1,g2,c2,e1,e2,h1.below hb,h2.below hb,hne⟩,Ab hbel hb⟩
theorem Gb.swap{α β:Type}{E:Dw α}{F:Dw β}{w wr:World}{v1 v2:Value}{l1:List α}{l2:List β}(h:Gb E F w wr v1 v2 l1 l2):Gb F E w wr v2 v1 l2 l1:=by
 obtain⟨⟨g1,c1,g2,c2,e1,e2,h1,h2,hne⟩,hbel⟩:=h;exact⟨⟨g2,c2,g1,c1,e2,e1,h2,h1,fun e=>hne e.symm⟩,hbel⟩
theorem Gb.second{α β:Type}{E:Dw α}{F:Dw β}{w wr:World}{v1:Value}{l1:List α}(h:Fd E w wr v1 l1):Gb E F w (wr.alloc (.cells #[] F.T)) v1 (.slice (some ⟨wr.heap.size,0,none⟩) 0 0) l1 []:=by
 obtain⟨⟨g1,c1,e1,h1⟩,hbel⟩:=h;have hb:Bl wr (wr.alloc (.cells #[] F.T)):=AO;refine⟨⟨g1,c1,wr.heap.size,0,e1,rfl,h1.below hb,?_,?_⟩,Ab hbel hb⟩
 ·exact(A8.empty F wr wr.heap.size (Nat.le_refl _)).rebase hbel.size
 ·have:=(h1.own g1 rfl).2;omega
theorem Fd.new{α:Type}(E:Dw α)(w:World):Fd E w (w.alloc (.cells #[] E.T)) (.slice (some ⟨w.heap.size,0,none⟩) 0 0) []:=⟨⟨w.heap.size,0,rfl,A8.empty E w w.heap.size (Nat.le_refl _)⟩,AO⟩
theorem Gb.push1{α β:Type}{E:Dw α}{F:Dw β}{w w1 wn:World}{g1 c1 g1' c1':Nat}{v2:Value}{l1:List α}{l2:List β}{x:α}{o:Obj}(h:Gb E F w w1 (.slice (some ⟨g1,0,none⟩) l1.length c1) v2 l1 l2)(hown:wn.ownsRow w.heap.size E.T E.sz (.slice (some ⟨g1',0,none⟩) (l1.length+1) c1') (l1.length+1) (AK E l1++E.enc x))(hgrow:(w1.alloc o).grownBy wn (Value.ownBlock (.slice (some ⟨g1,0,none⟩) l1.length c1)))(hat:Value.ownBlock (.slice (some ⟨g1,0,none⟩) l1.length c1)=some g1'\/g1'=w1.heap.size+1):Gb E F w wn (.slice (some ⟨g1',0,none⟩) (l1.length+1) c1') v2 (l1++[x]) l2:=by
 obtain⟨⟨g,c,g2,c2,e1,e2,h1,h2,hne⟩,hbel⟩:=h;simp only[Value.slice.injEq,Option.some.injEq,Addr.mk.injEq,and_true,true_and] at e1;obtain⟨rfl,rfl⟩:=e1;have hg2:=(h2.own g2 rfl).2;have h2a:A8 F (w1.alloc o) w.heap.size (.slice (some ⟨g2,0,none⟩) l2.length c2) l2:=h2.below AO
 have h2n:=h2a.kept hgrow (fun k hk e=>by
  have hk':some g2=some k:=hk
  have e':some k=some g1:=e
  rw[<- hk'] at e'
  simp only[Option.some.injEq] at e'
  exact hne e'.symm)
 refine⟨⟨g1',c1',g2,c2,by simp,e2,?_,h2n,?_⟩,?_⟩
 ·have:=A8.push rfl hown;rw[List.length_append,List.length_singleton];exact this
 ·rcases hat with e|e
  ·have e':some g1=some g1':=e;simp only[Option.some.injEq] at e';rw[<- e'];exact hne
  ·omega
 ·exact(hbel.alloc hbel.size _).grown hgrow (by have:=hbel.size;simp;omega) (fun q hq=>(h1.own q hq).1)
theorem Gb.push2{α β:Type}{E:Dw α}{F:Dw β}{w w1 wn:World}{g2 c2 g2' c2':Nat}{v1:Value}{l1:List α}{l2:List β}{x:β}{o:Obj}(h:Gb E F w w1 v1 (.slice (some ⟨g2,0,none⟩) l2.length c2) l1 l2)(hown:wn.ownsRow w.heap.size F.T F.sz (.slice (some ⟨g2',0,none⟩) (l2.length+1) c2') (l2.length+1) (AK F l2++F.enc x))(hgrow:(w1.alloc o).grownBy wn (Value.ownBlock (.slice (some ⟨g2,0,none⟩) l2.length c2)))(hat:Value.ownBlock (.slice (some ⟨g2,0,none⟩) l2.length c2)=some g2'\/g2'=w1.heap.size+1):
  Gb E F w wn v1 (.slice (some ⟨g2',0,none⟩) (l2.length+1) c2') l1 (l2++[x]):=(Gb.push1 h.swap hown hgrow hat).swap
theorem Gb.open1{α β:Type}{E:Dw α}{F:Dw β}{w wr:World}{v1 v2:Value}{l1:List α}{l2:List β}(h:Gb E F w wr v1 v2 l1 l2):∃g c:Nat,v1=.slice (some ⟨g,0,none⟩) l1.length c/\A8 E wr w.heap.size (.slice (some ⟨g,0,none⟩) l1.length c) l1:=by
 obtain⟨⟨g1,c1,g2,c2,e1,e2,h1,h2,hne⟩,hbel⟩:=h;exact⟨g1,c1,e1,h1⟩
theorem Gb.open2{α β:Type}{E:Dw α}{F:Dw β}{w wr:World}{v1 v2:Value}{l1:List α}{l2:List β}(h:Gb E F w wr v1 v2 l1 l2):∃g c:Nat,v2=.slice (some ⟨g,0,none⟩) l2.length c/\A8 F wr w.heap.size (.slice (some ⟨g,0,none⟩) l2.length c) l2:=h.swap.open1
def B9 (H:Nat->Ht) (ps:List P3) (k:Nat):List P3:=AF H (ps.take k)
def Bg (H:Nat->Ht) (ps:List P3) (k:Nat):List P3:=Cm H (ps.take k)
theorem GH(ps:List P3)(t:Nat)(h:t<ps.length):ps.take (t+1)=ps.take t++[Aq ps t]:=D6 Fk ps t h
theorem K8(H:Nat->Ht)(ps:List P3)(k:Nat)(hk:k<ps.length):B9 H ps (k+1)=B9 H ps k++(if PP H (Aq ps k) then [Aq ps k] else []):=by
 unfold B9 AF;rw[GH ps k hk,List.filter_append];congr 1;cases h:PP H (Aq ps k)<;>simp[h]
theorem KE(H:Nat->Ht)(ps:List P3)(k:Nat)(hk:k<ps.length):Bg H ps (k+1)=Bg H ps k++(if PP H (Aq ps k) then [] else [Aq ps k]):=by
 unfold Bg Cm;rw[GH ps k hk,List.filter_append];congr 1;cases h:PP H (Aq ps k)<;>simp[h]
theorem Qd(H:Nat->Ht)(ps:List P3)(k:Nat):(B9 H ps k).length<=ps.length:=by
 unfold B9 AF;exact Nat.le_trans (List.length_filter_le _ _) (by rw[List.length_take];omega)
theorem QZ(H:Nat->Ht)(ps:List P3)(k:Nat):(Bg H ps k).length<=ps.length:=by
 unfold Bg Cm;exact Nat.le_trans (List.length_filter_le _ _) (by rw[List.length_take];omega)
theorem IY(H:Nat->Ht)(ps:List P3):B9 H ps ps.length=AF H ps:=by unfold B9;rw[List.take_length]
theorem Kx(H:Nat->Ht)(ps:List P3):Bg H ps ps.length=Cm H ps:=by unfold Bg;rw[List.take_length]
theorem Bc.nat{n:Int}{ps:List P3}(h:Bc n ps){q:P3}(hq:q∈ps):∃lv pg:Nat,q.lv=lv/\q.pg=pg/\1<=lv/\lv<=3/\pg+Ga lv<=4096:=by
 rcases h.mem q hq with e|⟨i,hi,e,hp,_⟩|⟨i,j,hi,hj,e,hp,_⟩
 ·exact⟨1,0,by rw[e];rfl,by rw[e];rfl,by decide,by decide,by decide⟩
 ·exact⟨2,i*256,e,hp,by decide,by decide,show i*256+256<=4096 by omega⟩
 ·exact⟨3,i*256+j*16,e,hp,by decide,by decide,show i*256+j*16+16<=4096 by omega⟩
theorem Gr(zs:List Int)(h:An zs.length≠0):Bc (An zs.length) (A7 zs):=by
 unfold A7;rw[if_neg h];exact Ek zs (An zs.length)
theorem F5{zs:List Int}(h:Be zs=true):An zs.length≠0:=by
 unfold Be at h;simp at h;exact h.1
theorem Ue(x:Int)(h0:0<=x)(h1:x<18446744073709551616)(w:World):Calls prog 78 #[.int .u64 x,.int .i64 0] w fun e w'=>e=.returned (.int .i64 (x%2))/\w'=w:=by
 have hfl:∀w:World,Calls prog 133 #[.int .u64 x,.int .i64 0,.int .i64 1] w fun e w'=>e=.returned (.int .u64 (x%2))/\w'=w:=fun w=>by
  go_enter func133,ntmps133
  go_wp2_with fail
  go_ret;exact⟨rfl,rfl⟩
 have hm:0<=x%2/\x%2<2:=by omega
 go_enter func78,ntmps78
 go_wp2_with (go_at_call 133;refine(hfl _).mono ?_;rintro e w1 ⟨rfl,hw1⟩;obtain rfl:=hw1.symm)
 go_ret;exact⟨rfl,rfl⟩
def Bk (zs:List Int) (xs:List AE):List BP×Int :=
 if Be zs=false then ([],1) else if FP xs=false then ([],2) else if An zs.length<((AJ (lay xs) 256).length:Nat) then ([],3)
 else (Ao zs (An zs.length).toNat (lay xs) (A7 zs),0)
theorem Is{zs:List Int}{xs:List AE}(h:Be zs=false):Bk zs xs=([],1):=by unfold Bk;rw[if_pos h]
theorem J7{zs:List Int}{xs:List AE}(h:Be zs=true)(h2:FP xs=false):Bk zs xs=([],2):=by unfold Bk;rw[if_neg (by rw[h];decide),if_pos h2]
theorem Ij{zs:List Int}{xs:List AE}(h:Be zs=true)(h2:FP xs=true)(h3:An zs.length<((AJ (lay xs) 256).length:Nat)):Bk zs xs=([],3):=by unfold Bk;rw[if_neg (by rw[h];decide),if_neg (by rw[h2];decide),if_pos h3]
theorem FY{zs:List Int}{xs:List AE}(h:Be zs=true)(h2:FP xs=true)(h3:¬An zs.length<((AJ (lay xs) 256).length:Nat)):Bk zs xs=(Ao zs (An zs.length).toNat (lay xs) (A7 zs),0):=by unfold Bk;rw[if_neg (by rw[h];decide),if_neg (by rw[h2];decide),if_neg h3]
def DT (w:World) (r:List BP×Int) (e:Ending) (w':World):Prop :=
 ∃a c,e=.returned (.tuple #[.slice a r.1.length c,.int .i64 r.2])/\A8 BW w' w.heap.size (.slice a r.1.length c) r.1/\Bl w w'
theorem Tb{H:Nat->Ht}{n:Nat}{ps:List P3}(hn:0<n)(h:Bc n ps)(hw:(AJ H 256).length<=n)(k:Nat)(hk:k<=(AJ H 256).length):(AF H ps++Bd (AF H ps) (AJ H 256) k).length<=1100:=by
 have h1:=S7 (H:=H) (n:=n) (by omega) h;have h2:=List.countP_le_length (p:=Om (AF H ps)) (l:=AJ H 256);have h3:=FD (AF H ps) (AJ H 256) k hk;have h4:=JL H 256;rw[List.length_append];omega
theorem YP(s:List (Nat×Nat))(k:Nat)(hk:k<s.length):Aq (Pz s) k=⟨-1,(s[k]).1,(s[k]).2⟩:=by
 unfold Aq Pz;rw[List.getD_eq_getElem?_getD,List.getElem?_map,List.getElem?_eq_getElem hk];rfl
structure IZ (w wr:World) (v1 v2:Value) (l1 l2:List BP) (gm:Nat) (mk:Nat->Bool):Prop where
 two:Gb BW BW w wr v1 v2 l1 l2
 ne:∀g n c,(v1=.slice (some ⟨g,0,none⟩) n c\/v2=.slice (some ⟨g,0,none⟩) n c)->gm≠g
 mark:wr.rowIs gm 4 4096 (fun p=>.bool (mk p))
 lo:w.heap.size<=gm
theorem IZ.below{w wr w1:World}{v1 v2:Value}{l1 l2:List BP}{gm:Nat}{mk:Nat->Bool}(h:IZ w wr v1 v2 l1 l2 gm mk)(hb:Bl wr w1):IZ w w1 v1 v2 l1 l2 gm mk :=
 ⟨h.two.below hb,h.ne,h.mark.of_block (hb.block gm h.mark.lt),h.lo⟩
theorem IZ.push1{w w1 wn:World}{g1 c1 g1' c1':Nat}{v2:Value}{l1 l2:List BP}{x:BP}{o:Obj}{gm:Nat}{mk:Nat->Bool}(h:IZ w w1 (.slice (some ⟨g1,0,none⟩) l1.length c1) v2 l1 l2 gm mk)(hown:wn.ownsRow w.heap.size BW.T BW.sz (.slice (some ⟨g1',0,none⟩) (l1.length+1) c1') (l1.length+1) (AK BW l1++BW.enc x))(hgrow:(w1.alloc o).grownBy wn (Value.ownBlock (.slice (some ⟨g1,0,none⟩) l1.length c1)))(hat:Value.ownBlock (.slice (some ⟨g1,0,none⟩) l1.length c1)=some g1'\/g1'=w1.heap.size+1):IZ w wn (.slice (some ⟨g1',0,none⟩) (l1.length+1) c1') v2 (l1++[x]) l2 gm mk:=by
 have hl:=h.mark.lt;refine⟨Gb.push1 h.two hown hgrow hat,?_,?_,h.lo⟩
 ·intro g n c hh;rcases hh with hh|hh
  ·simp only[Value.slice.injEq,Option.some.injEq,Addr.mk.injEq,and_true] at hh;obtain⟨rfl,_⟩:=hh;rcases hat with e|e
   ·have e':some g1=some g1':=e;simp only[Option.some.injEq] at e';rw[<- e'];exact h.ne g1 _ _ (.inl rfl)
   ·omega
  ·exact h.ne g n c (.inr hh)
 ·have hne:some gm≠Value.ownBlock (.slice (some ⟨g1,0,none⟩) l1.length c1):=fun e=>h.ne g1 _ _ (.inl rfl) (by have e':some gm=some g1:=e;simpa using e')
  exact h.mark.of_block ((hgrow.block gm (by simp;omega) hne).trans (Below.heap_alloc _ _ _ hl))
theorem IZ.swap{w wr:World}{v1 v2:Value}{l1 l2:List BP}{gm:Nat}{mk:Nat->Bool}(h:IZ w wr v1 v2 l1 l2 gm mk):IZ w wr v2 v1 l2 l1 gm mk:=⟨h.two.swap,fun g n c hh=>h.ne g n c hh.symm,h.mark,h.lo⟩
theorem IZ.push2{w w1 wn:World}{g2 c2 g2' c2':Nat}{v1:Value}{l1 l2:List BP}{x:BP}{o:Obj}{gm:Nat}{mk:Nat->Bool}(h:IZ w w1 v1 (.slice (some ⟨g2,0,none⟩) l2.length c2) l1 l2 gm mk)(hown:wn.ownsRow w.heap.size BW.T BW.sz (.slice (some ⟨g2',0,none⟩) (l2.length+1) c2') (l2.length+1) (AK BW l2++BW.enc x))(hgrow:(w1.alloc o).grownBy wn (Value.ownBlock (.slice (some ⟨g2,0,none⟩) l2.length c2)))(hat:Value.ownBlock (.slice (some ⟨g2,0,none⟩) l2.length c2)=some g2'\/g2'=w1.heap.size+1):
  IZ w wn v1 (.slice (some ⟨g2',0,none⟩) (l2.length+1) c2') l1 (l2++[x]) gm mk:=(IZ.push1 h.swap hown hgrow hat).swap
theorem IZ.set{w wr:World}{v1 v2:Value}{l1 l2:List BP}{gm:Nat}{mk mk':Nat->Bool}{p:Nat}(h:IZ w wr v1 v2 l1 l2 gm mk)(hm:∀q,mk' q=(mk q||decide (q=p))):IZ w (wr.setCell ⟨gm,p,none⟩ (.bool true)) v1 v2 l1 l2 gm mk':=by
 obtain⟨⟨⟨g1,c1,g2,c2,e1,e2,h1,h2,hne⟩,hbel⟩,hn,hmk,hlo⟩:=h;have n1:gm≠g1:=hn g1 _ _ (.inl e1);have n2:gm≠g2:=hn g2 _ _ (.inr e2);have hg:wr.grownBy (wr.setCell ⟨gm,p,none⟩ (.bool true)) (some gm):=B7 (World.grownBy.refl _ _) _ _;refine⟨⟨⟨g1,c1,g2,c2,e1,e2,h1.kept hg ?_,h2.kept hg ?_,hne⟩,hbel.setCell hlo _⟩,hn,?_,hlo⟩
 ·intro k hk e;have hk':some g1=some k:=hk;rw[<- hk'] at e;simp only[Option.some.injEq] at e;exact n1 e.symm
 ·intro k hk e;have hk':some g2=some k:=hk;rw[<- hk'] at e;simp only[Option.some.injEq] at e;exact n2 e.symm
 ·have h5:=hmk.set p (.bool true);refine(show (wr.setCell ⟨gm,p,none⟩ (.bool true)).rowIs gm 4 4096 (fun q=>.bool (mk' q)) from ?_);have e:(fun q=>Value.bool (mk' q))=(fun q=>if q=p then Value.bool true else Value.bool (mk q)):=by
   funext q;rw[hm q];by_cases hq:q=p
   ·rw[if_pos hq,decide_eq_true hq,Bool.or_true]
   ·rw[if_neg hq,decide_eq_false hq,Bool.or_false]
  rw[e];exact h5
theorem K9(zs:List Int)(H:Nat->Ht)(all:List P3)(es:List En)(e:En):Ac zs H all (es++[e])=Ac zs H all es++(if GW zs H all e then [⟨1,e.ad,0,0⟩] else []):=by
 unfold Ac;rw[List.filter_append,List.map_append];cases h:GW zs H all e<;>simp[h]
theorem KH(zs:List Int)(H:Nat->Ht)(all:List P3)(es:List En)(e:En):Ai zs H all (es++[e])=Ai zs H all es++(if MT zs H all e then [⟨1,e.ad,0,C3 H all e.lv e.pg⟩] else []):=by
 unfold Ai;rw[List.filter_append,List.map_append];cases h:MT zs H all e<;>simp[h]
theorem PD(zs:List Int)(H:Nat->Ht)(all:List P3)(es:List En)(e:En)(p:Nat):Fg zs H all (es++[e]) p=(Fg zs H all es p||(GW zs H all e&&decide (e.pg<=p/\(p:Int)<e.pg+BX e.lv))):=by
 unfold Fg;rw[List.any_append];simp
theorem EK(zs:List Int)(H:Nat->Ht)(all:List P3)(es:List En):(Ac zs H all es).length<=es.length:=by
 unfold Ac;rw[List.length_map];exact List.length_filter_le _ _
theorem ER(zs:List Int)(H:Nat->Ht)(all:List P3)(es:List En):(Ai zs H all es).length<=es.length:=by
 unfold Ai;rw[List.length_map];exact List.length_filter_le _ _
theorem O9{n:Nat}{ps:List P3}(H:Nat->Ht)(hn:0<n)(h:Bc n ps)(lv pg:Int):AI (AF H ps) lv pg<n:=by
 by_cases h0:0<=AI (AF H ps) lv pg
 ·obtain⟨q,hq,_,_,e⟩:=Co h0;rw[<- e];exact(h.fr (by omega) (BB.1 hq).1).2
 ·omega
theorem Yz{n:Nat}{ps:List P3}(H:Nat->Ht)(hn:0<n)(h:Bc n ps)(i:Nat)(hi:i<(Bf (AF H ps) 4096).length):∃lv pg ad:Nat,AQ P7 (Bf (AF H ps) 4096) i=⟨lv,pg,ad⟩/\1<=lv/\lv<=3/\pg+Ay lv<=4096/\ad<n*16:=by
 have hm:AQ P7 (Bf (AF H ps) 4096) i∈Bf (AF H ps) 4096:=by
  unfold AQ;rw[List.getD_eq_getElem?_getD,List.getElem?_eq_getElem hi];exact List.getElem_mem hi
 obtain⟨page,lv,hp,h1,h3,hmod,e1,e2,h0,e3⟩:=JK hm;have hf:=O9 H hn h lv (page-page%(Ay lv*16):Nat);obtain⟨F,hF⟩:∃F:Nat,AI (AF H ps) lv (page-page%(Ay lv*16):Nat)=F:=⟨(AI (AF H ps) lv (page-page%(Ay lv*16):Nat)).toNat,by omega⟩
 rw[hF] at e3 hf;refine⟨lv,page,F*16+page/Ay lv%16,?_,h1,h3,?_,?_⟩
 ·rcases hx:AQ P7 (Bf (AF H ps) 4096) i with⟨a,b,c⟩;rw[hx] at e1 e2 e3;dsimp only at e1 e2 e3;rw[e1,e2,e3];simp
 ·rcases(show lv=1\/lv=2\/lv=3 by omega) with rfl|rfl|rfl
  ·have:page%256=0:=hmod;show page+256<=4096;omega
  ·have:page%16=0:=hmod;show page+16<=4096;omega
  ·show page+1<=4096;omega
 ·have:page/Ay lv%16<16:=Nat.mod_lt _ (by decide);omega
theorem WE(w:World)(x:BP):A8 BW (w.alloc (.cells #[.int .i64 x.kind,.int .i64 x.a,.int .i64 x.b,.int .u64 x.word] 77)) w.heap.size (.slice (some ⟨w.heap.size,0,none⟩) 1 1) [x] :=
 ⟨by simp[AK,BW],.inr ⟨w.heap.size,1,#[.int .i64 x.kind,.int .i64 x.a,.int .i64 x.b,.int .u64 x.word],rfl,Nat.le_refl _,heap_alloc_new w _,Nat.le_refl _,by unfold maxLen;omega,by simp[BW],by simp[AK,BW]⟩⟩
theorem Qg(w wr:World)(v:Value)(l:List BP)(a2:Option Addr)(c2 b2:Nat)(ys:List BP)(hlen:l.length+ys.length<=100000)(h:Fd BW w wr v l)(h2:A8 BW wr b2 (.slice a2 ys.length c2) ys)(hne:∀k,Value.ownBlock (.slice a2 ys.length c2)=some k->∀g n c,v=.slice (some ⟨g,0,none⟩) n c->k≠g):Calls prog 80 #[v,.slice a2 ys.length c2] wr fun e w'=>∃v',e=.returned v'/\Fd BW w w' v' (l++ys)/\(∀k,k<wr.heap.size->(∀g n c,v=.slice (some ⟨g,0,none⟩) n c->k≠g)->w'.heap[k]?=wr.heap[k]?)/\wr.heap.size<=w'.heap.size/\(∀g n c,v'=.slice (some ⟨g,0,none⟩) n c->wr.heap.size<=g\/∃n c,v=.slice (some ⟨g,0,none⟩) n c):=by
 obtain⟨⟨g,c,rfl,hr⟩,hbel⟩:=h;refine(NC g c w.heap.size l a2 c2 b2 ys wr hlen hbel.size hr h2 (fun k hk=>hne k hk g _ _ rfl)).mono fun e w' ⟨v',he,hg⟩=>?_
 obtain⟨⟨g',c',e',hr',hg'⟩,hgr⟩:=hg;have hgl:=(hr.own g rfl).1;refine⟨v',he,⟨⟨g',c',e',hr'⟩,⟨hgr.os.trans hbel.os,hgr.tape.trans hbel.tape,hgr.output.trans hbel.output,Nat.le_trans hbel.size hgr.size,fun k hk=>?_⟩⟩,fun k hk hn=>hgr.block k hk (fun e=>hn g _ _ rfl (by simpa using e)),hgr.size,fun g0 n0 c0 e0=>?_⟩
 ·have h1:=hbel.size;exact(hgr.block k (by omega) (fun e=>by have h9:k=g:=(by simpa using e);omega)).trans (hbel.block k hk)
 ·rw[e'] at e0;simp only[Value.slice.injEq,Option.some.injEq,Addr.mk.injEq,and_true] at e0;obtain⟨rfl,_⟩:=e0;rcases hg' with e|e
  ·exact .inr ⟨_,_,by rw[e]⟩
  ·exact .inl e
theorem Pj(gone:List P3)(t:Nat):As (t+1) gone=As t gone++(if BA gone (t:Nat) then [⟨4,(t:Nat),0,0⟩] else []):=by
 unfold As;rw[List.range_succ,List.filter_append,List.map_append];cases h:BA gone (t:Nat)<;>simp[h]
theorem KD(gone:List P3)(t:Nat):(As t gone).length<=t:=by
 unfold As;rw[List.length_map];exact Nat.le_trans (List.length_filter_le _ _) (by rw[List.length_range];omega)
theorem Iy(H:Nat->Ht)(all:List P3)(t:P3)(k:Nat):B6 H all t (k+1)=B6 H all t k++[⟨1,t.fr*16+(k:Nat),0,C3 H all t.lv (t.pg+(k:Nat)*BX t.lv)⟩]:=by
 unfold B6;rw[List.range_succ,List.map_append];rfl
theorem Gf(H:Nat->Ht)(all:List P3)(t:P3)(k:Nat):(B6 H all t k).length=k:=by unfold B6;simp
theorem KK(H:Nat->Ht)(all fs:List P3)(t:Nat)(ht:t<fs.length):AU H all (fs.take (t+1))=AU H all (fs.take t)++B6 H all (Aq fs t) 16:=by
 unfold AU;rw[GH fs t ht,List.flatMap_append];simp
theorem Da(H:Nat->Ht)(all fs:List P3):(AU H all fs).length=fs.length*16:=by
 unfold AU;induction fs with
 | nil=>rfl
 | cons p r ih=>rw[List.flatMap_cons,List.length_append,ih,Gf,List.length_cons];omega
theorem K5(H:Nat->Ht)(all fs:List P3):AU H all fs=[]↔fs=[]:=by
 constructor
 ·intro h;have:=Da H all fs;rw[h] at this;simp at this;exact List.eq_nil_of_length_eq_zero (by omega)
 ·intro h;rw[h];rfl
theorem ZM{BR T:List BP}(h:¬BR=[]):(if BR.isEmpty then [] else ((BR++[DH])++T)++[DH])=(([]++BR++[DH])++T)++[DH]:=by
 rw[if_neg (by rw[List.isEmpty_iff];exact h),List.nil_append]
theorem YJ{α:Type}{BR:List α}(h:¬BR=[]):decide ((0:Int)<(BR.length:Int))=true:=decide_eq_true (by have:=List.length_pos_iff.2 h;omega)
theorem aQ{α:Type}{BR:List α}(h:¬BR=[]):decide (0<BR.length)=true:=decide_eq_true (List.length_pos_iff.2 h)
theorem aS{α:Type}{BR:List α}(h:BR=[]):decide ((0:Int)<(BR.length:Int))=false/\decide (0<BR.length)=false:=by subst h;exact⟨rfl,rfl⟩
theorem Yx(H:Nat->Ht)(AL FR:List P3)(O2:List BP)(h:FR=[]):O2++BU (AU H AL FR)=O2++AU H AL FR:=by rw[(K5 H AL FR).2 h,JP]
theorem YU(H:Nat->Ht)(AL FR:List P3)(O2:List BP)(h:¬FR=[]):O2++BU (AU H AL FR)=(O2++AU H AL FR)++[DH]:=by rw[EG (fun e=>h ((K5 H AL FR).1 e)),List.append_assoc]
end
theorem FO(qs:List P3)(n:Nat)(x:Int):x∈DF qs n↔∃k:Nat,k<n/\BA qs (k:Nat)=false/\x=k:=by
 unfold DF;rw[Ge];constructor
 ·rintro⟨k,h1,h2,h3⟩;exact⟨k,h1,by simpa using h2,h3⟩
 ·rintro⟨k,h1,h2,h3⟩;exact⟨k,h1,by simpa using h2,h3⟩
theorem CE(qs:List P3)(n:Nat):CK (DF qs n):=Df _ _
theorem VL(t:Nat):KN (DF [] t) (t:Nat)=DF [] (t+1):=by
 refine EO (IV (CE _ _) _) (CE _ _) (fun x=>?_);rw[NZ (CE _ _),FO,FO];constructor
 ·rintro(rfl|⟨k,h1,h2,h3⟩)
  ·exact⟨t,by omega,rfl,rfl⟩
  ·exact⟨k,by omega,h2,h3⟩
 ·rintro⟨k,h1,h2,h3⟩;by_cases e:k=t
  ·exact .inl (by rw[h3,e])
  ·exact .inr ⟨k,by omega,h2,h3⟩
theorem F0(q:P3)(f:Int):BA [q] f=decide (q.fr=f):=by
 unfold BA;simp
theorem Uf(qs:List P3)(n:Nat)(q:P3):MU (DF qs n) q.fr=DF (qs++[q]) n:=by
 refine EO (RI (CE _ _) _) (CE _ _) (fun x=>?_);rw[XJ (CE _ _),FO,FO];constructor
 ·rintro⟨⟨k,h1,h2,h3⟩,h4⟩;refine⟨k,h1,?_,h3⟩;rw[CS,h2,F0,Bool.false_or];exact decide_eq_false (fun e=>h4 (by rw[h3,e]))
 ·rintro⟨k,h1,h2,h3⟩;rw[CS,F0,Bool.or_eq_false_iff] at h2;exact⟨⟨k,h1,h2.1,h3⟩,fun e=>of_decide_eq_false h2.2 (by rw[<- e,h3])⟩
theorem P0(qs:List P3)(n:Nat):(DF qs n).length<=n:=by
 unfold DF C4;rw[List.length_map];exact Nat.le_trans (List.length_filter_le _ _) (by rw[List.length_range];omega)
def Dj (gone:List P3) (n:Nat):List Int:=C4 (fun f=>BA gone (f:Nat)) n
theorem Oj(qs:List P3)(n:Nat):(Dj qs n).length<=n:=by
 unfold Dj C4;rw[List.length_map];exact Nat.le_trans (List.length_filter_le _ _) (by rw[List.length_range];omega)
theorem GD(qs:List P3)(n:Nat):CK (Dj qs n):=Df _ _
theorem Wr(qs:List P3)(n:Nat)(q:P3)(h0:0<=q.fr)(h1:q.fr<n):KN (Dj qs n) q.fr=Dj (qs++[q]) n:=by
 refine EO (IV (GD _ _) _) (GD _ _) (fun x=>?_);rw[NZ (GD _ _)];unfold Dj;rw[Ge,Ge];constructor
 ·rintro(rfl|⟨k,h2,h3,h4⟩)
  ·refine⟨q.fr.toNat,by omega,?_,by omega⟩;rw[CS,F0];(have:q.fr=((q.fr.toNat:Nat):Int):=by omega);rw[decide_eq_true this,Bool.or_true]
  ·exact⟨k,h2,by rw[CS,h3,Bool.true_or],h4⟩
 ·rintro⟨k,h2,h3,h4⟩;rw[CS,F0,Bool.or_eq_true] at h3;rcases h3 with h3|h3
  ·exact .inr ⟨k,h2,h3,h4⟩
  ·exact .inl (by rw[h4,of_decide_eq_true h3])
theorem VC(qs:List P3)(n:Nat)(lv pg:Int)(h:FJ qs<n):DF qs n=((FJ qs:Nat):Int) :: DF (qs++[⟨(FJ qs:Nat),lv,pg⟩]) n:=by
 obtain⟨_,s1,s2⟩:=Fu qs;refine EO (CE _ _) (List.pairwise_cons.2 ⟨fun x hx=>?_,CE _ _⟩) (fun x=>?_)
 ·obtain⟨k,h1,h2,h3⟩:=(FO _ _ _).1 hx;rw[CS,F0,Bool.or_eq_false_iff] at h2;have h4:¬((FJ qs:Nat):Int)=(k:Nat):=of_decide_eq_false h2.2;have h5:¬k<FJ qs:=fun hk=>by rw[s1 k hk] at h2;cases h2.1
  omega
 ·rw[List.mem_cons,FO,FO];constructor
  ·rintro⟨k,h1,h2,h3⟩;by_cases e:k=FJ qs
   ·exact .inl (by rw[h3,e])
   ·refine .inr ⟨k,h1,?_,h3⟩;rw[CS,h2,F0,Bool.false_or];exact decide_eq_false (fun e2=>e (by have:((FJ qs:Nat):Int)=(k:Nat):=e2;omega))
  ·rintro(e|⟨k,h1,h2,h3⟩)
   ·exact⟨FJ qs,h,s2,e⟩
   ·rw[CS,Bool.or_eq_false_iff] at h2;exact⟨k,h1,h2.1,h3⟩
theorem UM(kept:List P3)(q:P3):BZ (kept++[q]) []=BZ kept []++[⟨q.lv,q.pg,q.fr,true⟩]:=by unfold BZ;simp
theorem Ud(kept fs:List P3)(q:P3):BZ kept (fs++[q])=BZ kept fs++[⟨q.lv,q.pg,q.fr,false⟩]:=by unfold BZ;simp
theorem Rn{kept fs:List P3}{lv pg:Int}(h:∀q∈kept++fs,¬(q.lv=lv/\q.pg=pg)):FX (BZ kept fs) lv pg=none:=by
 rw[Ic];rw[List.find?_eq_none.2 (fun q hq=>by unfold B5;rw[decide_eq_false (h q (List.mem_append_left _ hq))];decide),List.find?_eq_none.2 (fun q hq=>by unfold B5;rw[decide_eq_false (h q (List.mem_append_right _ hq))];decide)];rfl
theorem PY{ps:List P3}(hs:ps.Pairwise (fun a b=>key a<key b))(t:Nat)(ht:t<ps.length):∀q∈ps.take t,¬(q.lv=(Aq ps t).lv/\q.pg=(Aq ps t).pg):=by
 intro q hq he;obtain⟨i,hi,rfl⟩:=List.getElem_of_mem hq;rw[List.length_take] at hi;rw[List.getElem_take] at he;have:=List.pairwise_iff_getElem.1 hs i t (by omega) ht (by omega);have e:ps[t]=Aq ps t:=by unfold Aq;rw[List.getD_eq_getElem?_getD,List.getElem?_eq_getElem ht];rfl
 unfold key at this;rw[e] at this;omega
theorem Nv{H:Nat->Ht}{n:Nat}{ps:List P3}(hn:0<n)(h:Bc n ps)(hw:(AJ H 256).length<=n)(k:Nat)(hk:k<(AJ H 256).length):∀q∈Bd (AF H ps) (AJ H 256) k,¬(q.lv=((AJ H 256)[k]).1/\q.pg=((AJ H 256)[k]).2):=by
 intro q hq he;obtain⟨j,hj,hj2,h1,h2,_⟩:=Db hn h hw k (by omega) q hq;have:=List.pairwise_iff_getElem.1 (Jt H 256) j k hj2 hk hj;unfold Jk at this;omega
theorem Mt{H:Nat->Ht}{n:Nat}{ps:List P3}(hn:0<n)(h:Bc n ps)(hw:(AJ H 256).length<=n)(k:Nat)(hk:k<(AJ H 256).length):(FX (BZ (AF H ps) (Bd (AF H ps) (AJ H 256) k)) ((AJ H 256)[k]).1 ((AJ H 256)[k]).2).isSome=!decide (AI (AF H ps) ((AJ H 256)[k]).1 ((AJ H 256)[k]).2<0):=by
 by_cases hf:AI (AF H ps) ((AJ H 256)[k]).1 ((AJ H 256)[k]).2<0
 ·rw[decide_eq_true hf,Rn]
  ·rfl
  ·intro q hq he;rcases List.mem_append.1 hq with hq|hq
   ·have hx:=Cg (D3 H h) hq;rw[he.1,he.2] at hx;have:=(h.fr (by omega) (BB.1 hq).1).1;omega
   ·exact Nv hn h hw k hk q hq he
 ·rw[decide_eq_false hf,SD (by omega)];rfl
theorem Sx{H:Nat->Ht}{n:Nat}{ps:List P3}(hn:0<n)(h:Bc n ps)(hw:(AJ H 256).length<=n)(k:Nat)(hk:k<(AJ H 256).length)(hf:AI (AF H ps) ((AJ H 256)[k]).1 ((AJ H 256)[k]).2<0):FX (BZ (AF H ps) (Bd (AF H ps) (AJ H 256) k)) ((AJ H 256)[k]).1 ((AJ H 256)[k]).2=none:=by
 have:=Mt hn h hw k hk;rw[decide_eq_true hf] at this;simpa using this
theorem Cw.tch{w w':World}{B:Nat}{m:List HE}{S:Nat->Prop}(h:Cw w B m)(hg:BF S w w')(hn:¬S B):Cw w' B m:=h.of_block (hg.block B h.lt hn)
theorem CZ.tch{w w':World}{g:Nat}{H:Nat->Ht}{S:Nat->Prop}(h:CZ w g H)(hg:BF S w w')(hn:¬S g):CZ w' g H:=h.of_block hg.size (hg.block g h.lt hn)
theorem BQ.tch{w w':World}{g:Nat}{zs:List Int}{S:Nat->Prop}(h:BQ w g zs)(hg:BF S w w')(hn:¬S g):BQ w' g zs:=h.of_block (hg.block g h.lt hn)
theorem Io.tch{w w':World}{gp gz cz gl B:Nat}{zs:List Int}{H:Nat->Ht}{m:List HE}{S:Nat->Prop}(h:Io w gp gz cz gl B zs H m)(hg:BF S w w')(h1:¬S gp)(h2:¬S gz)(h3:¬S gl)(h4:¬S B):Io w' gp gz cz gl B zs H m :=
 ⟨Nat.lt_of_lt_of_le h.lt hg.size,(hg.cell (p:=⟨gp,0,none⟩) h.lt h1).trans h.c0,(hg.cell (p:=⟨gp,1,none⟩) h.lt h1).trans h.c1,(hg.cell (p:=⟨gp,2,none⟩) h.lt h1).trans h.c2,h.words.tch hg h2,h.lay.tch hg h3,h.map.tch hg h4⟩
structure VD (w0:World) (gp gz gl M:Nat):Prop where
 p:gp<w0.heap.size
 z:gz<w0.heap.size
 l:gl<w0.heap.size
 m:M<w0.heap.size
 zp:gz≠gp
 lp:gl≠gp
 mp:M≠gp
 zm:gz≠M
 lm:gl≠M
structure SS (w0 w:World) (gp gz cz gl M:Nat) (zs:List Int) (H:Nat->Ht) (m:List HE) (aR:Option Addr) (cR:Nat) (rt:List Int) (aC:Option Addr) (cC:Nat) (cr:List P3):Prop where
 tch:BF (fun k=>k=gp\/k=M) w0 w
 pst:Io w gp gz cz gl M zs H m
 ret:Bw w gp 4 (w0.heap.size+1) aR cR rt
 c3:w.cell? ⟨gp,3,none⟩=some (.slice aC cr.length cC)
 f3:w.frozen? ⟨gp,3,none⟩=false
 crow:A8 Fk w (w0.heap.size+1) (.slice aC cr.length cC) cr
 dif:∀k,oB aR=some k->oB aC≠some k
theorem SS.ownR{w0 w:World}{gp gz cz gl M cR cC:Nat}{zs:List Int}{H:Nat->Ht}{m:List HE}{aR aC:Option Addr}{rt:List Int}{cr:List P3}(h:SS w0 w gp gz cz gl M zs H m aR cR rt aC cC cr):∀k,oB aR=some k->w0.heap.size+1<=k/\k<w.heap.size:=fun k hk=>h.ret.row.own k (by rw[Cc];exact hk)
theorem SS.ownC{w0 w:World}{gp gz cz gl M cR cC:Nat}{zs:List Int}{H:Nat->Ht}{m:List HE}{aR aC:Option Addr}{rt:List Int}{cr:List P3}(h:SS w0 w gp gz cz gl M zs H m aR cR rt aC cC cr):∀k,oB aC=some k->w0.heap.size+1<=k/\k<w.heap.size:=fun k hk=>h.crow.own k (by rw[Cc];exact hk)
theorem SS.elsewhere{w0 w w':World}{gp gz cz gl M cR cC:Nat}{zs:List Int}{H:Nat->Ht}{m:List HE}{aR aC:Option Addr}{rt:List Int}{cr:List P3}{S:Nat->Prop}(h:SS w0 w gp gz cz gl M zs H m aR cR rt aC cC cr)(hs:VD w0 gp gz gl M)(hg:BF S w w')(hS:∀k,S k->w0.heap.size<=k/\oB aR≠some k/\oB aC≠some k):SS w0 w' gp gz cz gl M zs H m aR cR rt aC cC cr:=by
 have np:∀k,k<w0.heap.size->¬S k:=fun k hk hh=>by have:=(hS k hh).1;omega
 exact⟨h.tch.then hg (fun k hk hh=>absurd hh (np k hk)),h.pst.tch hg (np _ hs.p) (np _ hs.z) (np _ hs.l) (np _ hs.m),h.ret.tch hg (np _ hs.p) (fun k hk hh=>(hS k hh).2.1 hk),(hg.cell (p:=⟨gp,3,none⟩) h.pst.lt (np _ hs.p)).trans h.c3,(hg.frozen (p:=⟨gp,3,none⟩) h.pst.lt (np _ hs.p)).trans h.f3,h.crow.tch hg (fun k hk hh=>(hS k hh).2.2 hk),h.dif⟩
theorem SS.below{w0 w w':World}{gp gz cz gl M cR cC:Nat}{zs:List Int}{H:Nat->Ht}{m:List HE}{aR aC:Option Addr}{rt:List Int}{cr:List P3}(h:SS w0 w gp gz cz gl M zs H m aR cR rt aC cC cr)(hs:VD w0 gp gz gl M)(hg:Bl w w'):SS w0 w' gp gz cz gl M zs H m aR cR rt aC cC cr :=
 h.elsewhere hs (BF.of_below (S:=fun _=>False) hg) (fun k hh=>hh.elim)
theorem SS.put{w0 w w':World}{gp gz cz gl M cR cC:Nat}{zs:List Int}{H:Nat->Ht}{m m':List HE}{aR aC:Option Addr}{rt:List Int}{cr:List P3}(h:SS w0 w gp gz cz gl M zs H m aR cR rt aC cC cr)(hs:VD w0 gp gz gl M)(hg:w.grownBy w' (some M))(hm:Cw w' M m'):SS w0 w' gp gz cz gl M zs H m' aR cR rt aC cC cr:=by
 have ht:BF (fun k=>k=M) w w':=BF.of_grown hg (fun k e=>by simpa using e.symm);have nr:∀k,oB aR=some k->¬k=M:=fun k hk e=>by have:=(h.ownR k hk).1;have:=hs.m;omega
 have nc:∀k,oB aC=some k->¬k=M:=fun k hk e=>by have:=(h.ownC k hk).1;have:=hs.m;omega
 exact⟨h.tch.then ht (fun k hk hh=>.inr hh),⟨Nat.lt_of_lt_of_le h.pst.lt ht.size,(ht.cell (p:=⟨gp,0,none⟩) h.pst.lt (fun e=>hs.mp e.symm)).trans h.pst.c0,(ht.cell (p:=⟨gp,1,none⟩) h.pst.lt (fun e=>hs.mp e.symm)).trans h.pst.c1,(ht.cell (p:=⟨gp,2,none⟩) h.pst.lt (fun e=>hs.mp e.symm)).trans h.pst.c2,h.pst.words.tch ht hs.zm,h.pst.lay.tch ht hs.lm,hm⟩,h.ret.tch ht (fun e=>hs.mp e.symm) nr,(ht.cell (p:=⟨gp,3,none⟩) h.pst.lt (fun e=>hs.mp e.symm)).trans h.c3,(ht.frozen (p:=⟨gp,3,none⟩) h.pst.lt (fun e=>hs.mp e.symm)).trans h.f3,h.crow.tch ht nc,h.dif⟩
theorem SS.back{w0 w w':World}{gp gz cz gl M cR cR' cC:Nat}{zs:List Int}{H:Nat->Ht}{m:List HE}{aR aR' aC:Option Addr}{rt rt':List Int}{cr:List P3}(h:SS w0 w gp gz cz gl M zs H m aR cR rt aC cC cr)(hs:VD w0 gp gz gl M)(hg:Bi w w' gp 4 (w0.heap.size+1) aR aR' cR' rt'):SS w0 w' gp gz cz gl M zs H m aR' cR' rt' aC cC cr:=by
 have nS:∀k,k<w0.heap.size->k≠gp->¬(k=gp\/oB aR=some k):=fun k hk hn hh=>by
  rcases hh with e|e
  ·exact hn e
  ·have:=(h.ownR k e).1;omega
 have nc:∀k,oB aC=some k->¬(k=gp\/oB aR=some k):=fun k hk hh=>by
  rcases hh with e|e
  ·have:=(h.ownC k hk).1;have:=hs.p;omega
  ·exact h.dif k e hk
 refine⟨h.tch.then hg.tch (fun k hk hh=>?_),⟨hg.set.lt,(hg.oth 0 (by decide)).trans h.pst.c0,(hg.oth 1 (by decide)).trans h.pst.c1,(hg.oth 2 (by decide)).trans h.pst.c2,h.pst.words.tch hg.tch (nS _ hs.z hs.zp),h.pst.lay.tch hg.tch (nS _ hs.l hs.lp),h.pst.map.tch hg.tch (nS _ hs.m hs.mp)⟩,hg.set,(hg.oth 3 (by decide)).trans h.c3,(hg.ofz 3).trans h.f3,h.crow.tch hg.tch nc,fun k hk hc=>?_⟩
 ·rcases hh with e|e
  ·exact .inl e
  ·have:=(h.ownR k e).1;omega
 ·rcases hg.own with e|⟨j,e,hj⟩
  ·exact h.dif k (by rw[<- e];exact hk) hc
  ·(have:j=k:=by rw[e] at hk;simpa using hk);have:=(h.ownC k hc).2;omega
theorem SS.make{w0 w wa w1:World}{gp gz cz gl M cR cC cC':Nat}{zs:List Int}{H:Nat->Ht}{m:List HE}{aR aC aC':Option Addr}{rt:List Int}{cr cr':List P3}(h:SS w0 w gp gz cz gl M zs H m aR cR rt aC cC cr)(hs:VD w0 gp gz gl M)(hb:Bl w wa)(hr:A8 Fk w1 (w0.heap.size+1) (.slice aC' cr'.length cC') cr')(hg:wa.grownBy w1 (oB aC))(ho:oB aC'=oB aC\/∃j,oB aC'=some j/\w.heap.size<=j):SS w0 (w1.setCell ⟨gp,3,none⟩ (.slice aC' cr'.length cC')) gp gz cz gl M zs H m aR cR rt aC' cC' cr':=by
 have hT:BF (fun j=>oB aC=some j) w w1:=⟨hg.os.trans hb.os,hg.tape.trans hb.tape,hg.output.trans hb.output,Nat.le_trans hb.size hg.size,fun i hi hn=>(hg.block i (Nat.lt_of_lt_of_le hi hb.size) (fun e=>hn e.symm)).trans (hb.block i hi)⟩;have hw0:=h.tch.size;have nS:∀k,k<w0.heap.size->¬oB aC=some k:=fun k hk e=>by have:=(h.ownC k e).1;omega
 have hP1:Io w1 gp gz cz gl M zs H m:=h.pst.tch hT (nS _ hs.p) (nS _ hs.z) (nS _ hs.l) (nS _ hs.m);have hR1:Bw w1 gp 4 (w0.heap.size+1) aR cR rt:=h.ret.tch hT (nS _ hs.p) (fun k hk hh=>h.dif k hk hh);have h31:w1.cell? ⟨gp,3,none⟩=some (.slice aC cr.length cC):=(hT.cell (p:=⟨gp,3,none⟩) h.pst.lt (nS _ hs.p)).trans h.c3;have hf1:w1.frozen? ⟨gp,3,none⟩=false:=(hT.frozen (p:=⟨gp,3,none⟩) h.pst.lt (nS _ hs.p)).trans h.f3;have hS:BF (fun j=>j=gp) w1 (w1.setCell ⟨gp,3,none⟩ (.slice aC' cr'.length cC')):=(BF.refl w1).set _ _ rfl;have oth:∀i,i≠3->(w1.setCell ⟨gp,3,none⟩ (.slice aC' cr'.length cC')).cell? ⟨gp,i,none⟩=w1.cell? ⟨gp,i,none⟩:=fun i hi=>World.cell?_setCell_other _ _ _ _ (fun e=>hi (by simp only[Addr.mk.injEq,true_and,and_true] at e;exact e.symm))
 have np:∀k,oB aR=some k->¬k=gp:=fun k hk e=>by have:=(h.ownR k hk).1;have:=hs.p;omega
 have nc':∀k,oB aC'=some k->¬k=gp:=fun k hk e=>by
  rcases ho with e2|⟨j,e2,hj⟩
  ·have:=(h.ownC k (by rw[<- e2];exact hk)).1;have:=hs.p;omega
  ·(have:j=k:=by rw[e2] at hk;simpa using hk);have:=hs.p;omega
 refine⟨(h.tch.then hT (fun k hk hh=>absurd hh (nS k hk))).then hS (fun k hk hh=>.inl hh),⟨by simpa using hP1.lt,(oth 0 (by decide)).trans hP1.c0,(oth 1 (by decide)).trans hP1.c1,(oth 2 (by decide)).trans hP1.c2,hP1.words.tch hS hs.zp,hP1.lay.tch hS hs.lp,hP1.map.tch hS hs.mp⟩,⟨by simpa using hR1.lt,(oth 4 (by decide)).trans hR1.cell,by simpa using hR1.fz,hR1.row.tch hS np,hR1.off,by simpa using hR1.base⟩,World.cell?_setCell_same _ _ _ h31,by simpa using hf1,hr.tch hS nc',fun k hk hc=>?_⟩;rcases ho with e2|⟨j,e2,hj⟩
 ·exact h.dif k hk (by rw[<- e2];exact hc)
 ·have:j=k:=by rw[e2] at hc;simpa using hc
  have:=(h.ownR k hk).2;omega
end Go.Proofs.YtnmhkgmmpkjjeaaGreat
