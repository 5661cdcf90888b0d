import Derived.Test.YtnmhkgmmpkjjeacGreatG29
import Derived.Test.YtnmhkgmmpkjjeacGreatG35
namespace Go.Proofs.YtnmhkgmmpkjjeacGreat
open Go.ChangeShapes Go.WideShapes Go.ChangeAt Go.RowKit
set_option linter.unusedVariables false
set_option maxRecDepth 100000
attribute [local go_sem ↓] Go.wp_at_zero Go.wp_at_succ
theorem SetAt.new (w:World) (T:TypeId):SetAt (w.alloc (.cells #[.slice none 0 0] T)) w.heap.size 0 (w.heap.size+1) none 0 [] :=
 ⟨by simp,by simp [go_sem],by simp [go_sem],⟨by simp [ecells],.inl ⟨rfl,rfl⟩⟩,by simp [oB,Value.ownBlock],by simp⟩
structure TakeAt (w:World) (FB gF:Nat) (fl:List Int):Prop where
 lt:FB < w.heap.size
 glt:gF < w.heap.size
 fz:w.frozen? ⟨FB,0,none⟩=false
 ne:fl ≠ []->FB ≠ gF
 form:∃ A c,w.cell? ⟨FB,0,none⟩=some (.slice A fl.length c)/\fl.length<=c/\(0 < fl.length->∃ o,A=some ⟨gF,o,none⟩/\∀ i,i < fl.length->w.cell? ⟨gF,o+i,none⟩=some (.int .i64 (eAt eInt fl i)))
theorem TakeAt.tch {w w':World} {FB gF:Nat} {fl:List Int} {S:Nat->Prop} (h:TakeAt w FB gF fl) (hg:Tch S w w') (h1:¬ S FB) (h2:¬ S gF):TakeAt w' FB gF fl:=by
 obtain ⟨A,c,e1,e2,e3⟩:=h.form
 refine ⟨Nat.lt_of_lt_of_le h.lt hg.size,Nat.lt_of_lt_of_le h.glt hg.size,(hg.frozen (p:=⟨FB,0,none⟩) h.lt h1).trans h.fz,h.ne,A,c,(hg.cell (p:=⟨FB,0,none⟩) h.lt h1).trans e1,e2,fun h0=>?_⟩
 obtain ⟨o,e4,e5⟩:=e3 h0
 exact ⟨o,e4,fun i hi=>(hg.cell (p:=⟨gF,o+i,none⟩) h.glt h2).trans (e5 i hi)⟩
theorem SetAt.take {w:World} {FB B c:Nat} {a:Option Addr} {fl:List Int} (h:SetAt w FB 0 B a c fl):∃ gF,(gF=FB\/oB a=some gF)/\TakeAt w FB gF fl:=by
 rcases h.row.2 with ⟨e0,h0⟩ | ⟨g',cap',cur,e0,_⟩
 ·simp only [Value.slice.injEq] at e0
  obtain ⟨rfl,_,rfl⟩:=e0
  exact ⟨FB,.inl rfl,h.lt,h.lt,h.fz,fun hh=>absurd (List.eq_nil_of_length_eq_zero h0) hh,none,0,h.cell,by omega,fun hh=>by omega⟩
 ·simp only [Value.slice.injEq] at e0
  obtain ⟨rfl,_,rfl⟩:=e0
  obtain ⟨hB,hc,hm,f,hr,hf⟩:=int_row h.row
  refine ⟨g',.inr rfl,h.lt,hr.lt,h.fz,fun _ e=>h.off (by rw [e]; rfl),_,_,h.cell,hc,fun _=>⟨0,rfl,fun i hi=>?_⟩⟩
  rw [Nat.zero_add,hr.cell (i:=i) (by omega),hf i hi]
theorem TakeAt.next {w:World} {FB gF:Nat} {x:Int} {r:List Int} {A':Option Addr} {c o:Nat} (h:TakeAt w FB gF (x :: r)) (hc:w.cell? ⟨FB,0,none⟩=some (.slice (some ⟨gF,o,none⟩) (r.length+1) c)) (hl:r.length+1<=c) (hr:∀ i,i < r.length+1->w.cell? ⟨gF,o+i,none⟩=some (.int .i64 (eAt eInt (x :: r) i))) (hA:0 < r.length->A'=some ⟨gF,o+1,none⟩):TakeAt (w.setCell ⟨FB,0,none⟩ (.slice A' r.length (c - 1))) FB gF r:=by
 have hne:FB ≠ gF:=h.ne (by simp)
 refine ⟨by simpa using h.lt,by simpa using h.glt,by simpa using h.fz,fun _=>hne,A',c - 1,World.cell?_setCell_same _ _ _ hc,by omega,fun h0=>⟨o+1,hA h0,fun i hi=>?_⟩⟩
 rw [World.cell?_setCell_other _ _ _ _ (fun e=>hne (by simp only [Addr.mk.injEq] at e; exact e.1)),show o+1+i=o+(i+1) by omega,hr (i+1) (by omega)]
 rfl
theorem SetStep.below0 {w wr w1:World} {B c c':Nat} {a a':Option Addr} {xs ys:List Int} (hb:Below w.heap.size w wr) (hset:SetAt wr w.heap.size 0 (w.heap.size+1) a c xs) (st:SetStep wr w1 w.heap.size 0 (w.heap.size+1) a a' c' ys):Below w.heap.size w w1:=by
 refine ((Tch.of_below (S:=fun k=>w.heap.size<=k) hb).then st.tch (fun k hk hh=>?_)).below (fun k hk hh=>by omega)
 rcases hh with e | e
 ·omega
 ·have:=(hset.row.own k (by rw [own_sl]; exact e)).1
  omega
theorem keepStep {w0 w w3 w4 w5:World} {gp gz cz gl M cR cF cF':Nat} {zs:List Int} {H:Nat->Ht} {m m':List HE} {aR aF aF':Option Addr} {rt fr fr':List Int} (hs:Sep w0 gp gz gl M) (h:SS w0 w gp gz cz gl M zs H m aR cR rt none 0 []) (hf:SetAt w w0.heap.size 0 (w0.heap.size+1) aF cF fr) (hd:∀ k,oB aF=some k->oB aR ≠ some k) (hb:Below w.heap.size w w3) (hg:w3.grownBy w4 (some M)) (hm:MapIs w4 M m') :
  SetAt w4 w0.heap.size 0 (w0.heap.size+1) aF cF fr/\(SetStep w4 w5 w0.heap.size 0 (w0.heap.size+1) aF aF' cF' fr'->SS w0 w5 gp gz cz gl M zs H m' aR cR rt none 0 []/\SetAt w5 w0.heap.size 0 (w0.heap.size+1) aF' cF' fr'/\(∀ k,oB aF'=some k->oB aR ≠ some k)):=by
 have h3:=h.below hs hb
 have h4:=h3.put hs hg hm
 have hfo:∀ k,oB aF=some k->w0.heap.size+1<=k/\k < w.heap.size:=fun k hk=>hf.row.own k (by rw [own_sl]; exact hk)
 have f3:SetAt w3 w0.heap.size 0 (w0.heap.size+1) aF cF fr:=hf.tch (Tch.of_below (S:=fun _=>False) hb) (fun f=>f) (fun _ _ f=>f)
 have f4:SetAt w4 w0.heap.size 0 (w0.heap.size+1) aF cF fr:=f3.tch (S:=fun k=>k=M) (Tch.of_grown hg (fun k e=>by simpa using e.symm)) (fun e=>by have:=hs.m; omega) (fun k hk e=>by have:=(hfo k hk).1; have:=hs.m; omega)
 refine ⟨f4,fun st=>⟨h4.elsewhere hs st.tch (fun k hk=>?_),st.set,fun k hk hr=>?_⟩⟩
 ·rcases hk with e | e
  ·subst e
   exact ⟨Nat.le_refl _,fun e2=>by have:=(h4.ownR _ e2).1; omega,fun e2=>by cases e2⟩
  ·exact ⟨by have:=(hfo k e).1; omega,hd k e,fun e2=>by cases e2⟩
 ·rcases st.own with e | ⟨j,e,hj⟩
  ·exact hd k (by rw [<- e]; exact hk) hr
  ·have:j=k:=by rw [e] at hk; simpa using hk
   have:=(h4.ownR k hr).2
   omega
theorem backStep {w0 w w3 w4:World} {gp gz cz gl M cR cR' cF:Nat} {zs:List Int} {H:Nat->Ht} {m:List HE} {aR aR' aF:Option Addr} {rt rt' fr:List Int} (hs:Sep w0 gp gz gl M) (h:SS w0 w gp gz cz gl M zs H m aR cR rt none 0 []) (hf:SetAt w w0.heap.size 0 (w0.heap.size+1) aF cF fr) (hd:∀ k,oB aF=some k->oB aR ≠ some k) (hb:Below w.heap.size w w3) (st:SetStep w3 w4 gp 4 (w0.heap.size+1) aR aR' cR' rt') :
  SS w0 w4 gp gz cz gl M zs H m aR' cR' rt' none 0 []/\SetAt w4 w0.heap.size 0 (w0.heap.size+1) aF cF fr/\(∀ k,oB aF=some k->oB aR' ≠ some k):=by
 have h3:=h.below hs hb
 have hfo:∀ k,oB aF=some k->w0.heap.size+1<=k/\k < w.heap.size:=fun k hk=>hf.row.own k (by rw [own_sl]; exact hk)
 have f3:SetAt w3 w0.heap.size 0 (w0.heap.size+1) aF cF fr:=hf.tch (Tch.of_below (S:=fun _=>False) hb) (fun f=>f) (fun _ _ f=>f)
 refine ⟨h3.back hs st,f3.tch st.tch (fun hh=>?_) (fun k hk hh=>?_),fun k hk hr=>?_⟩
 ·rcases hh with e | e
  ·have:=hs.p; omega
  ·have:=(h3.ownR _ e).1; omega
 ·rcases hh with e | e
  ·have:=(hfo k hk).1; have:=hs.p; omega
  ·exact hd k hk e
 ·rcases st.own with e | ⟨j,e,hj⟩
  ·exact hd k hk (by rw [<- e]; exact hr)
  ·have:j=k:=by rw [e] at hr; simpa using hr
   have:=(hfo k hk).2
   have:=hb.size
   omega
theorem takeStep {w0 w w1:World} {gp gz cz gl M cR cC gF:Nat} {zs:List Int} {H:Nat->Ht} {m:List HE} {aR aC:Option Addr} {rt:List Int} {cr:List P3} {x:Int} {r:List Int} (hs:Sep w0 gp gz gl M) (h:SS w0 w gp gz cz gl M zs H m aR cR rt aC cC cr) (ht:TakeAt w w0.heap.size gF (x :: r)) (hb:Below w.heap.size w w1) :
  ∃ c o,w1.cell? ⟨w0.heap.size,0,none⟩=some (.slice (some ⟨gF,o,none⟩) (r.length+1) c)/\w1.frozen? ⟨w0.heap.size,0,none⟩=false/\w1.cell? ⟨gF,o,none⟩=some (.int .i64 x)/\r.length+1<=c/\w0.heap.size < w1.heap.size/\gF < w1.heap.size/\∀ A',(0 < r.length->A'=some ⟨gF,o+1,none⟩)->TakeAt (w1.setCell ⟨w0.heap.size,0,none⟩ (.slice A' r.length (c - 1))) w0.heap.size gF r/\SS w0 (w1.setCell ⟨w0.heap.size,0,none⟩ (.slice A' r.length (c - 1))) gp gz cz gl M zs H m aR cR rt aC cC cr:=by
 have t1:TakeAt w1 w0.heap.size gF (x :: r):=ht.tch (Tch.of_below (S:=fun _=>False) hb) (fun f=>f) (fun f=>f)
 have h1:=h.below hs hb
 obtain ⟨A,c,e1,e2,e3⟩:=t1.form
 obtain ⟨o,e4,e5⟩:=e3 (by simp)
 subst e4
 refine ⟨c,o,e1,t1.fz,e5 0 (by simp),e2,t1.lt,t1.glt,fun A' hA=>⟨t1.next e1 e2 e5 hA,h1.elsewhere (S:=fun k=>k=w0.heap.size) hs ((Tch.refl w1).set _ _ rfl) (fun k hk=>?_)⟩⟩
 subst hk
 exact ⟨Nat.le_refl _,fun e=>by have:=(h1.ownR _ e).1; omega,fun e=>by have:=(h1.ownC _ e).1; omega⟩
theorem makeStep {w0 w w2 wa w4:World} {gp gz cz gl M cR cC cC' gF:Nat} {zs:List Int} {H:Nat->Ht} {m m':List HE} {aR aC:Option Addr} {rt:List Int} {cr cr':List P3} {fl:List Int} {g1:Nat} (hs:Sep w0 gp gz gl M) (h:SS w0 w gp gz cz gl M zs H m aR cR rt aC cC cr) (ht:TakeAt w w0.heap.size gF fl) (hc:oB aC ≠ some gF) (hgw:w0.heap.size<=gF) (hg:w.grownBy w2 (some M)) (hm:MapIs w2 M m') (hb:Below w2.heap.size w2 wa) (hr:ERow ePl w4 (w0.heap.size+1) (.slice (some ⟨g1,0,none⟩) cr'.length cC') cr') (hg4:wa.grownBy w4 (oB aC)) (hat:oB aC=some g1\/w2.heap.size<=g1) :
  SS w0 (w4.setCell ⟨gp,3,none⟩ (.slice (some ⟨g1,0,none⟩) cr'.length cC')) gp gz cz gl M zs H m' aR cR rt (some ⟨g1,0,none⟩) cC' cr'/\TakeAt (w4.setCell ⟨gp,3,none⟩ (.slice (some ⟨g1,0,none⟩) cr'.length cC')) w0.heap.size gF fl/\oB (some ⟨g1,0,none⟩) ≠ some gF:=by
 have h2:=h.put hs hg hm
 have hT:Tch (fun k=>k=M) w w2:=Tch.of_grown hg (fun k e=>by simpa using e.symm)
 have t2:TakeAt w2 w0.heap.size gF fl:=ht.tch hT (fun e=>by have:=hs.m; omega) (fun e=>by have:=hs.m; omega)
 have ta:TakeAt wa w0.heap.size gF fl:=t2.tch (Tch.of_below (S:=fun _=>False) hb) (fun f=>f) (fun f=>f)
 have t4:TakeAt w4 w0.heap.size gF fl:=ta.tch (S:=fun j=>oB aC=some j) (Tch.of_grown hg4 (fun k e=>e)) (fun e=>by have:=(h2.ownC _ e).1; omega) hc
 have t5:TakeAt (w4.setCell ⟨gp,3,none⟩ (.slice (some ⟨g1,0,none⟩) cr'.length cC')) w0.heap.size gF fl:=t4.tch (S:=fun k=>k=gp) ((Tch.refl w4).set _ _ rfl) (fun e=>by have:=hs.p; omega) (fun e=>by have:=hs.p; omega)
 refine ⟨h2.make hs hb hr hg4 ?_,t5,?_⟩
 ·rcases hat with e | e
  ·exact .inl e.symm
  ·exact .inr ⟨g1,rfl,e⟩
 ·intro e
  have e':some g1=some gF:=e
  simp only [Option.some.injEq] at e'
  rcases hat with e2 | e2
  ·exact hc (by rw [e2,e'])
  ·have:=t2.glt; omega
theorem seat_cells {w:World} {b g c n:Nat} {xs:List (Nat × Nat)} (h:ERow eSeat w b (.slice (some ⟨g,0,none⟩) n c) xs) (i:Nat) (hi:i < xs.length):g < w.heap.size/\w.cell? ⟨g,i * 2,none⟩=some (.int .i64 ((xs[i]).1:Nat))/\w.cell? ⟨g,i * 2+1,none⟩=some (.int .i64 ((xs[i]).2:Nat)):=by
 obtain ⟨a,c',e,h1⟩:=h.form
 obtain ⟨g',N,f,e2,_,hr,hN,hf⟩:=h1 (by omega)
 have hN':xs.length * 2<=N:=hN
 simp only [Value.slice.injEq] at e
 obtain ⟨e,_,_⟩:=e
 rw [e2] at e
 simp only [Option.some.injEq,Addr.mk.injEq,and_true] at e
 subst e
 have hx:eAt eSeat xs i=xs[i]:=by unfold eAt; rw [List.getD_eq_getElem?_getD,List.getElem?_eq_getElem hi]; rfl
 have a0:f (i * 2+0)=eCell eSeat xs i 0:=hf i hi 0 (by decide)
 have a1:f (i * 2+1)=eCell eSeat xs i 1:=hf i hi 1 (by decide)
 unfold eCell at a0 a1
 rw [hx] at a0 a1
 exact ⟨hr.lt,by rw [hr.cell (i:=i * 2) (by omega)]; exact congrArg some a0,by rw [hr.cell (i:=i * 2+1) (by omega)]; exact congrArg some a1⟩
theorem ret_nil (n:Nat):retL [] n=[]:=by
 unfold retL numsL
 have:(List.range n).filter (fun f=>hasFr [] (f:Nat))=[]:=by
  rw [List.filter_eq_nil_iff]
  intro a _ h
  cases h
 rw [this]
 rfl
theorem kept_take_before {H:Nat->Ht} {ps:List P3} (hs:ps.Pairwise (fun a b=>key a < key b)) (t:Nat) (ht:t < ps.length):mGet (hmOf (keptTo H ps t) []) (pAt ps t).lv (pAt ps t).pg=none:=by
 refine mGet_no (fun q hq=>?_)
 rw [List.append_nil] at hq
 exact take_before hs t ht q (kept_mem.1 hq).1
set_option maxHeartbeats 8000000 in
theorem settle_any (gp gz cz gl M:Nat) (zs:List Int) (H:Nat->Ht) (n:Nat) (ps:List P3) (ap:Option Addr) (cp bp gw cw bw:Nat) (w:World) (hs:Sep w gp gz gl M) (hP:PSt w gp gz cz gl M zs H []) (c3:w.cell? ⟨gp,3,none⟩=some (.slice none 0 0)) (c4:w.cell? ⟨gp,4,none⟩=some (.slice none 0 0)) (fz:∀ i,w.frozen? ⟨gp,i,none⟩=false)
  (hz:zs.length=n * 16) (hn0:0 < n) (hn:n<=512) (hpo:PlcOk n ps) (hpl:ps.length<=1000) (hw:(wPre H 256).length<=n) (hps:PRow w bp (.slice ap ps.length cp) ps) (hpd:∀ k,oB ap=some k->¬ (k=gp\/k=M)) (hws:ERow eSeat w bw (.slice (some ⟨gw,0,none⟩) (wPre H 256).length cw) (wPre H 256)) (hwd:¬ (gw=gp\/gw=M)) :
  Calls Tryz.prog 47 #[.pointer (some ⟨gp,0,none⟩),.slice ap ps.length cp,.slice (some ⟨gw,0,none⟩) (wPre H 256).length cw] w fun r w'=>r=.returned (.tuple #[])/\∃ aR cR aC cC,SS w w' gp gz cz gl M zs H (hmOf (keptL H ps) (newL H ps)) aR cR (retL (goneL H ps) n) aC cC (newL H ps):=by
 obtain ⟨iP,hiP,hzP0,hzP1,hzP2⟩:=info_parts info_place
 have HSEP:Hid (Sep w gp gz gl M):=hs
 have HPO:Hid (PlcOk n ps):=hpo
 have HPS:Hid (∀ wX,Tch (fun k=>k=gp\/k=M) w wX->PRow wX bp (.slice ap ps.length cp) ps):=fun wX hX=>ERow.p ((PRow.e hps).tch hX hpd)
 have HWS:Hid (∀ wX,Tch (fun k=>k=gp\/k=M) w wX->ERow eSeat wX bw (.slice (some ⟨gw,0,none⟩) (wPre H 256).length cw) (wPre H 256)):=fun wX hX=>hws.tch hX (fun k hk hh=>hwd (by have e:some gw=some k:=hk; simp only [Option.some.injEq] at e; rw [e]; exact hh))
 have HS0:Hid (∀ wX,Below w.heap.size w wX->w.heap.size+1<=wX.heap.size->SS w wX gp gz cz gl M zs H [] none 0 [] none 0 []):=fun wX hX hl =>
  ⟨Tch.of_below hX,hP.below hX,⟨Nat.lt_of_lt_of_le hP.lt hX.size,(hX.cell (p:=⟨gp,4,none⟩) hP.lt).trans c4,(hX.frozen (p:=⟨gp,4,none⟩) hP.lt).trans (fz 4),⟨by simp [ecells],.inl ⟨rfl,rfl⟩⟩,by simp [oB,Value.ownBlock],hl⟩,(hX.cell (p:=⟨gp,3,none⟩) hP.lt).trans c3,(hX.frozen (p:=⟨gp,3,none⟩) hP.lt).trans (fz 3),⟨by simp [ecells],.inl ⟨rfl,rfl⟩⟩,fun k hk=>by cases hk⟩
 have k0:=hP.c0
 have hlt:=hP.lt
 have HZ:Hid (zs.length=n * 16):=hz
 have dq:((zs.length:Nat):Int) / 16=(n:Int):=by omega
 clear hs hP c3 c4 fz hpo hps hpd hws hwd hz
 go_enter Tryz.func47,Tryz.ntmps47
 go_wp2_with fail
 go_loopw [23] (fun iv wr=>∃ t:Nat,t<=n/\iv=.int .i64 t/\(∃ a c,SetAt wr w.heap.size 0 (w.heap.size+1) a c (freeL [] t))/\Below w.heap.size w wr) (fun iv _=>n - (intOf iv).toNat)
 case atStart=>exact ⟨0,Nat.zero_le _,rfl,⟨none,0,SetAt.new w _⟩,bal⟩
 case round =>
  obtain ⟨t,ht,rfl,⟨a1,c1,hset⟩,hb⟩:=hrel
  by_cases hltn:t < n
  ·have hfl:=free_len [] t
   have hadd:=add_any w.heap.size 0 (w.heap.size+1) c1 a1 (freeL [] t) (t:Int) wr (free_rising _ _) (by omega) hset
   rw [free_add] at hadd
   have HB:Hid (Below w.heap.size w wr):=hb
   have HSET:Hid _:=hset
   clear hset hb
   go_wp2_with fail
   refine hadd.mono ?_
   rintro e w1 ⟨rfl,a2,c2,st⟩
   clear hadd
   go_wp2_with fail
   go_roundw
   case rel =>
    exact ⟨t+1,by omega,by go_num,⟨a2,c2,st.set⟩,SetStep.below0 (B:=0) HB.out HSET.out st⟩
   case measure=>simp [intOf]; omega
  ·have et:n=t:=by omega
   subst et
   have HSS:Hid (SS w wr gp gz cz gl M zs H [] none 0 [] none 0 []):=HS0.out wr hb hset.lt
   have HSET:Hid (SetAt wr w.heap.size 0 (w.heap.size+1) a1 c1 (freeL [] n)):=hset
   clear hb hset HS0 k0 dq HZ
   go_wp2_with fail
   go_loopw [31] (fun iv wr=>∃ t:Nat,t<=ps.length/\iv=.int .i64 t/\∃ aF cF aR cR,SetAt wr w.heap.size 0 (w.heap.size+1) aF cF (freeL (keptTo H ps t) n)/\SS w wr gp gz cz gl M zs H (hmOf (keptTo H ps t) []) aR cR (retL (goneTo H ps t) n) none 0 []/\∀ k,oB aF=some k->oB aR ≠ some k) (fun iv _=>ps.length - (intOf iv).toNat)
   case atStart =>
    have e0:retL (goneTo H ps 0) n=[]:=ret_nil n
    exact ⟨0,Nat.zero_le _,rfl,a1,c1,none,0,HSET.out,by rw [e0]; exact HSS.out,fun k _ hh=>by cases hh⟩
   case round =>
    obtain ⟨wr,rfl⟩:∃ wX:World,wX=wr:=⟨_,rfl⟩
    clear HSS HSET
    obtain ⟨t,ht,rfl,aF,cF,aR,cR,hset,hss,hdf⟩:=hrel
    by_cases hlt2:t < ps.length
    ·obtain ⟨g,hg1,hg2⟩:=plc_cells (HPS.out wr hss.tch)
     obtain ⟨hae,hgl⟩:=hg1 (by omega)
     obtain ⟨lv,pg,hlv,hpg,l1,l3,lp⟩:=HPO.out.nat (pAt_mem hlt2)
     have hfr:=HPO.out.fr (by omega) (pAt_mem hlt2)
     obtain ⟨F,hFR⟩:∃ F,(pAt ps t).fr=F:=⟨_,rfl⟩
     rw [hFR] at hfr
     have hE:pAt ps t=⟨F,lv,pg⟩:=by rw [<- hFR,<- hlv,<- hpg]
     obtain ⟨x0,x1,x2⟩:=hg2 t F lv pg hlt2 hE wr (Below.refl _ _)
     subst hae
     have HNO:Hid (mGet (hmOf (keptTo H ps t) []) (lv:Int) (pg:Int)=none):=hidOf <| by
      have:=kept_take_before (H:=H) HPO.out.sorted t hlt2
      rw [hE] at this
      exact this
     have HKS:Hid (keptTo H ps (t+1)=keptTo H ps t ++ (if nd H lv pg then [⟨F,lv,pg⟩] else [])):=hidOf <| by rw [keptTo_succ H ps t hlt2,hE]; rfl
     have HGS:Hid (goneTo H ps (t+1)=goneTo H ps t ++ (if nd H lv pg then [] else [⟨F,lv,pg⟩])):=hidOf <| by rw [goneTo_succ H ps t hlt2,hE]; rfl
     obtain ⟨wq,hwq⟩:∃ wq,wq=(wr.alloc (.cells #[.int .i64 F,.int .i64 lv,.int .i64 pg] 62)).alloc (.cells #[.int .i64 lv,.int .i64 pg] 122):=⟨_,rfl⟩
     have hbq:Below wr.heap.size wr wq:=by rw [hwq]; exact ((Below.refl _ _).alloc (Nat.le_refl _) _).alloc (by simp) _
     have hzq:wq.heap.size=wr.heap.size+2:=by rw [hwq]; simp
     have q0:wq.cell? ⟨wr.heap.size,0,none⟩=some (.int .i64 F):=by rw [hwq]; simp [go_sem]
     have s0:wq.cell? ⟨wr.heap.size+1,0,none⟩=some (.int .i64 lv):=by rw [hwq]; simp [go_sem]
     have s1:wq.cell? ⟨wr.heap.size+1,1,none⟩=some (.int .i64 pg):=by rw [hwq]; simp [go_sem]
     have HQ:Hid (∀ wX:World,wX.heap[gp]?=wq.heap[gp]?->wX.heap[wr.heap.size]?=wq.heap[wr.heap.size]?->wX.heap[wr.heap.size+1]?=wq.heap[wr.heap.size+1]?->(wX.cell? ⟨gp,1,none⟩=some (.pointer (some ⟨gl,0,none⟩))/\wX.cell? ⟨wr.heap.size+1,0,none⟩=some (.int .i64 lv)/\wX.cell? ⟨wr.heap.size+1,1,none⟩=some (.int .i64 pg))/\(wX.cell? ⟨gp,2,none⟩=some (.map (some M))/\wX.cell? ⟨wr.heap.size,0,none⟩=some (.int .i64 F))):=fun wX e1 e2 e3 =>
      ⟨⟨(cob e1).trans ((hbq.cell (p:=⟨gp,1,none⟩) hss.pst.lt).trans hss.pst.c1),(cob e3).trans s0,(cob e3).trans s1⟩,(cob e1).trans ((hbq.cell (p:=⟨gp,2,none⟩) hss.pst.lt).trans hss.pst.c2),(cob e2).trans q0⟩
     have HNT:Hid (∀ wX,Below wr.heap.size wr wX->Calls Tryz.prog 72 #[.pointer (some ⟨gl,0,none⟩),.agg #[.int .i64 lv,.int .i64 pg]] wX fun e w'=>e=.returned (.bool (nd H lv pg))/\Below wX.heap.size wX w'):=fun wX hX=>needsT_any gl H lv pg wX l1 l3 lp (hss.pst.lay.below hX)
     have L1:(0:Int)<=(t:Int):=by omega
     have L2:(t:Int) < (ps.length:Int):=by omega
     have HSET:Hid _:=hset
     have HSS:Hid _:=hss
     have HDF:Hid (∀ k,oB aF=some k->oB aR ≠ some k):=hdf
     have HWQ:Hid (wq=_):=hwq
     have HBQ:Hid (Below wr.heap.size wr wq):=hbq
     have HZQ:Hid (wq.heap.size=wr.heap.size+2):=hzq
     have N0:wr.heap.size+1 < wq.heap.size:=by omega
     have N1:wr.heap.size < wq.heap.size:=by omega
     have N2:gp < wq.heap.size:=by have:=hss.pst.lt; omega
     have N3:gp < wr.heap.size:=hss.pst.lt
     have HFR:Hid (0<=F/\F < n):=hfr
     obtain ⟨⟨k1,s0,s1⟩,k2,q0⟩:=HQ.out wq rfl rfl rfl
     clear hset hss hdf hwq hbq hzq hg1 hg2 hfr hFR hE hlv hpg
     go_wp2_with fail
     rw [<- HWQ.out]
     refine wp_region_held_drew (S:=fun wX=>wX.cell? ⟨gp,1,none⟩=some (.pointer (some ⟨gl,0,none⟩))/\wX.cell? ⟨wr.heap.size+1,0,none⟩=some (.int .i64 lv)/\wX.cell? ⟨wr.heap.size+1,1,none⟩=some (.int .i64 pg)) (by kernel_rfl) ⟨k1,s0,s1⟩ (fun hHeld=>?_)
     refine tk 0 ?_
     refine tk 1 ?_
     refine tk 2 ?_
     refine tk 3 ?_
     refine tk 4 ?_
     refine wpAnyH_ready (rs:=[5]) (by kernel_rfl) (by simp) ?_
     refine AllReadyH.cons rfl (fun K hK=>?_) AllReadyH.nil
     go_simp
     refine (HNT.out _ HBQ.out.drew).mono ?_
     rintro e w3 ⟨rfl,hb3'⟩
     have hb3:Below wq.heap.size wq w3:=(Below.refl _ _).drew.trans (hb3'.mono (by simp))
     clear hb3'
     have hq3:=HQ.out w3 (hb3.block gp N2) (hb3.block _ N1) (hb3.block _ N0)
     have HB3:Hid (Below wq.heap.size wq w3):=hb3
     have HBW:Hid (Below wr.heap.size wr w3):=HBQ.out.trans (hb3.mono (by omega))
     have M0:wr.heap.size+1 < w3.heap.size:=Nat.lt_of_lt_of_le N0 hb3.size
     have M1:wr.heap.size < w3.heap.size:=by omega
     clear hb3 HNT x0 x1 x2 k1 s0 s1 k2 q0
     go_wp2_with fail
     refine hK.out _ _ hq3.1 (fun hHeld2=>?_)
     clear hK K
     refine wpAnyH_done (by kernel_rfl) ?_ _
     clear hHeld hHeld2
     obtain ⟨⟨k1,s0,s1⟩,k2,q0⟩:=hq3
     cases hd:nd H lv pg
     ·have HK2:Hid (keptTo H ps (t+1)=keptTo H ps t):=hidOf <| by rw [HKS.out,hd]; simp
      have HG2:Hid (goneTo H ps (t+1)=goneTo H ps t ++ [⟨F,lv,pg⟩]):=hidOf <| by rw [HGS.out,hd]; simp
      have HAD:Hid (∀ wX,Below w3.heap.size w3 wX->Calls Tryz.prog 71 #[.pointer (some ⟨gp,4,none⟩),.int .i64 F] wX fun r w'=>r=.returned (.tuple #[])/\∃ a' c',SetStep wX w' gp 4 (w.heap.size+1) aR a' c' (retL (goneTo H ps t ++ [⟨F,lv,pg⟩]) n)):=fun wX hX=>by
       have h:=(HSS.out.below HSEP.out (HBW.out.trans (hX.mono HBW.out.size))).ret
       have h2:=add_any gp 4 (w.heap.size+1) cR aR (retL (goneTo H ps t) n) F wX (ret_rising _ _) (by have:=ret_len (goneTo H ps t) n; omega) h
       rw [ret_add (goneTo H ps t) n ⟨F,lv,pg⟩ HFR.out.1 HFR.out.2] at h2
       exact h2
      clear hd HKS HGS
      go_wp2_with fail
      refine wp_region_held_drew (S:=fun wX=>wX.cell? ⟨wr.heap.size,0,none⟩=some (.int .i64 F)) (by kernel_rfl) q0 (fun hHeld=>?_)
      refine tk 0 ?_
      refine tk 1 ?_
      refine tk 2 ?_
      refine tk 3 ?_
      refine tk 4 ?_
      refine wpAnyH_ready (rs:=[5]) (by kernel_rfl) (by simp) ?_
      refine AllReadyH.cons rfl (fun K hK=>?_) AllReadyH.nil
      go_simp
      refine (HAD.out _ (Below.refl _ _).drew).mono ?_
      rintro e w4 ⟨rfl,aR',cR',st'⟩
      have hbS:=backStep HSEP.out HSS.out HSET.out HDF.out (HBW.out.trans ((Below.refl w3.heap.size w3).drew.mono HBW.out.size)) st'
      have hq4:w4.cell? ⟨wr.heap.size,0,none⟩=some (.int .i64 F):=by
       have hno:¬ (wr.heap.size=gp\/oB aR=some wr.heap.size):=fun hh=>by
        rcases hh with e | e
        ·omega
        ·have:=(HSS.out.ownR _ e).2; omega
       exact (st'.tch.cell (p:=⟨wr.heap.size,0,none⟩) M1 hno).trans q0
      clear HAD st'
      go_wp2_with fail
      refine hK.out _ _ hq4 (fun hHeld2=>?_)
      clear hK K
      refine wpAnyH_done (by kernel_rfl) ?_ _
      clear hHeld hHeld2
      go_wp2_with fail
      go_roundw
      case rel=>exact ⟨t+1,by omega,by go_num,aF,cF,aR',cR',by rw [HK2.out]; exact hbS.2.1,by rw [HK2.out,HG2.out]; exact hbS.1,hbS.2.2⟩
      case measure=>simp [intOf]; omega
     ·have HK2:Hid (keptTo H ps (t+1)=keptTo H ps t ++ [⟨F,lv,pg⟩]):=hidOf <| by rw [HKS.out,hd]; simp
      have HG2:Hid (goneTo H ps (t+1)=goneTo H ps t):=hidOf <| by rw [HGS.out,hd]; simp
      have HRM:Hid (∀ wX,SetAt wX w.heap.size 0 (w.heap.size+1) aF cF (freeL (keptTo H ps t) n)->Calls Tryz.prog 73 #[.pointer (some ⟨w.heap.size,0,none⟩),.int .i64 F] wX fun r w'=>r=.returned (.tuple #[])/\∃ a' c',SetStep wX w' w.heap.size 0 (w.heap.size+1) aF a' c' (freeL (keptTo H ps t ++ [⟨F,lv,pg⟩]) n)):=fun wX hX=>by
       have h2:=remove_any w.heap.size 0 (w.heap.size+1) cF aF (freeL (keptTo H ps t) n) F wX (free_rising _ _) (by have:=free_len (keptTo H ps t) n; omega) hX
       rw [free_rem (keptTo H ps t) n ⟨F,lv,pg⟩] at h2
       exact h2
      have HMP:Hid (MapIs w3 M (hmOf (keptTo H ps t) [])):=(HSS.out.below HSEP.out HBW.out).pst.map
      obtain ⟨w4,hput,hm4,hg4,hz4⟩:=run_put M (hmOf (keptTo H ps t) []) ⟨lv,pg,F,true⟩ w3.drew (HMP.out.of_block rfl) HNO.out
      have hm4':MapIs w4 M (hmOf (keptTo H ps t ++ [⟨F,lv,pg⟩]) []):=by rw [hm_snocK]; exact hm4
      have HG4:Hid (w3.grownBy w4 (some M)):=grown_both (grown_drew w3 _) hg4
      have HKP:Hid (∀ w5 aF' cF' fr',SetAt w4 w.heap.size 0 (w.heap.size+1) aF cF (freeL (keptTo H ps t) n)/\(SetStep w4 w5 w.heap.size 0 (w.heap.size+1) aF aF' cF' fr'->SS w w5 gp gz cz gl M zs H (hmOf (keptTo H ps t ++ [⟨F,lv,pg⟩]) []) aR cR (retL (goneTo H ps t) n) none 0 []/\SetAt w5 w.heap.size 0 (w.heap.size+1) aF' cF' fr'/\(∀ k,oB aF'=some k->oB aR ≠ some k))):=fun w5 aF' cF' fr'=>keepStep HSEP.out HSS.out HSET.out HDF.out HBW.out HG4.out hm4'
      have e4:∀ k,k < w3.heap.size->k ≠ M->w4.heap[k]?=w3.heap[k]?:=fun k hk hn=>HG4.out.block k hk (fun e=>hn (by simpa using e))
      have hmlt:M < w.heap.size:=HSEP.out.m
      have hwlt:w.heap.size<=wr.heap.size:=HSS.out.tch.size
      have p3:gp < w3.heap.size:=by omega
      have hq4:=HQ.out w4 ((e4 gp p3 (fun e=>HSEP.out.mp e.symm)).trans (HB3.out.block gp N2)) ((e4 _ M1 (by omega)).trans (HB3.out.block _ N1)) ((e4 _ M0 (by omega)).trans (HB3.out.block _ N0))
      have O1:wr.heap.size < w4.heap.size:=by have:=HG4.out.size; omega
      clear hd HKS HGS hm4 hg4 hz4 hm4' e4
      dsimp only at hput
      go_wp2_with fail
      refine wp_region_held_drew (S:=fun wX=>wX.cell? ⟨gp,2,none⟩=some (.map (some M))/\wX.cell? ⟨wr.heap.size+1,0,none⟩=some (.int .i64 lv)/\wX.cell? ⟨wr.heap.size+1,1,none⟩=some (.int .i64 pg)/\wX.cell? ⟨wr.heap.size,0,none⟩=some (.int .i64 F)) (by kernel_rfl) ⟨k2,s0,s1,q0⟩ (fun hHeld=>?_)
      refine tk 0 ?_
      refine tk 1 ?_
      refine tk 2 ?_
      refine tk 3 ?_
      refine tk 4 ?_
      refine tk 5 ?_
      refine tk 6 ?_
      refine tk 7 ?_
      refine wpAnyH_ready (rs:=[8]) (by kernel_rfl) (by simp) ?_
      refine AllReadyH.cons rfl (fun K hK=>?_) AllReadyH.nil
      go_simp
      refine hK.out _ _ ⟨hq4.2.1,hq4.1.2.1,hq4.1.2.2,hq4.2.2⟩ (fun hHeld2=>?_)
      clear hK K
      refine wpAnyH_done (by kernel_rfl) ?_ _
      clear hHeld hHeld2 hput
      have q4:=hq4.2.2
      have hrm:=HRM.out w4 (HKP.out w4 none 0 []).1
      clear hq4 k1 k2 s0 s1 q0
      go_wp2_with fail
      refine hrm.mono ?_
      rintro e w5 ⟨rfl,aF',cF',st⟩
      have hst:=(HKP.out w5 aF' cF' _).2 st
      clear hrm st
      go_wp2_with fail
      go_roundw
      case rel=>exact ⟨t+1,by omega,by go_num,aF',cF',aR,cR,by rw [HK2.out]; exact hst.2.1,by rw [HK2.out,HG2.out]; exact hst.1,hst.2.2⟩
      case measure=>simp [intOf]; omega
    ·have et:t=ps.length:=by omega
     subst et
     rw [keptTo_all,goneTo_all] at hss
     rw [keptTo_all] at hset
     obtain ⟨gF,hgF,htk⟩:=hset.take
     have HT0:Hid (TakeAt wr w.heap.size gF (freeL (keptL H ps ++ frTo (keptL H ps) (wPre H 256) 0) n)):=hidOf <| by rw [frTo_zero,List.append_nil]; exact htk
     have HS3:Hid (SS w wr gp gz cz gl M zs H (hmOf (keptL H ps) (frTo (keptL H ps) (wPre H 256) 0)) aR cR (retL (goneL H ps) n) none 0 (frTo (keptL H ps) (wPre H 256) 0)):=hidOf <| by rw [frTo_zero]; exact hss
     have HRF:Hid (oB aR ≠ some gF):=hidOf <| fun e=>by
      rcases hgF with e2 | e2
      ·have:=(hss.ownR gF e).1; omega
      ·exact hdf gF e2 e
     have HGW:Hid (w.heap.size<=gF):=hidOf <| by
      rcases hgF with e2 | e2
      ·omega
      ·have:=(hset.row.own gF (by rw [own_sl]; exact e2)).1; omega
     clear htk hss hset hdf hgF
     go_wp2_with fail
     go_loopw [66] (fun iv wr=>∃ k:Nat,k<=(wPre H 256).length/\iv=.int .i64 k/\∃ aC cC,TakeAt wr w.heap.size gF (freeL (keptL H ps ++ frTo (keptL H ps) (wPre H 256) k) n)/\SS w wr gp gz cz gl M zs H (hmOf (keptL H ps) (frTo (keptL H ps) (wPre H 256) k)) aR cR (retL (goneL H ps) n) aC cC (frTo (keptL H ps) (wPre H 256) k)/\oB aC ≠ some gF) (fun iv _=>(wPre H 256).length - (intOf iv).toNat)
     case atStart=>exact ⟨0,Nat.zero_le _,rfl,none,0,HT0.out,by have:=HS3.out; rw [frTo_zero] at this ⊢; exact this,fun hh=>by cases hh⟩
     case round =>
      obtain ⟨wr,rfl⟩:∃ wX:World,wX=wr:=⟨_,rfl⟩
      clear HT0 HS3
      obtain ⟨k,hk,rfl,aC,cC,htk,hss,hcf⟩:=hrel
      by_cases hlt3:k < (wPre H 256).length
      ·obtain ⟨hgw,x0,x1⟩:=seat_cells (HWS.out wr hss.tch) k hlt3
       have hsm:=home_some hn0 HPO.out hw k hlt3
       have HNO:Hid (frOf (keptL H ps) ((wPre H 256)[k]).1 ((wPre H 256)[k]).2 < 0->mGet (hmOf (keptL H ps) (frTo (keptL H ps) (wPre H 256) k)) ((wPre H 256)[k]).1 ((wPre H 256)[k]).2=none):=home_none hn0 HPO.out hw k hlt3
       have HRM:Hid (frOf (keptL H ps) ((wPre H 256)[k]).1 ((wPre H 256)[k]).2 < 0->(keptL H ps ++ frTo (keptL H ps) (wPre H 256) k).length < (wPre H 256).length):=fresh_room (by omega) HPO.out k hlt3
       have HFS:Hid (frTo (keptL H ps) (wPre H 256) (k+1)=frStep (keptL H ps) (frTo (keptL H ps) (wPre H 256) k) (wPre H 256)[k]):=frTo_succ _ _ k hlt3
       generalize (wPre H 256)[k]=s at x0 x1 hsm HNO HRM HFS
       obtain ⟨lv,pg⟩:=s
       dsimp only at x0 x1 hsm HNO HRM HFS
       obtain ⟨wq,hwq⟩:∃ wq,wq=wr.alloc (.cells #[.int .i64 lv,.int .i64 pg] 122):=⟨_,rfl⟩
       have hbq:Below wr.heap.size wr wq:=by rw [hwq]; exact bal
       have hzq:wq.heap.size=wr.heap.size+1:=by rw [hwq]; simp
       have s0:wq.cell? ⟨wr.heap.size,0,none⟩=some (.int .i64 lv):=by rw [hwq]; simp [go_sem]
       have s1:wq.cell? ⟨wr.heap.size,1,none⟩=some (.int .i64 pg):=by rw [hwq]; simp [go_sem]
       have L1:(0:Int)<=(k:Int):=by omega
       have L2:(k:Int) < ((wPre H 256).length:Int):=by omega
       obtain ⟨bf,hbf⟩:∃ bf,decide (frOf (keptL H ps) (lv:Int) (pg:Int) < 0)=bf:=⟨_,rfl⟩
       rw [hbf] at hsm
       have HBF:Hid (decide (frOf (keptL H ps) (lv:Int) (pg:Int) < 0)=bf):=hbf
       obtain ⟨hv,hhv⟩:∃ hv,lookV (hmOf (keptL H ps) (frTo (keptL H ps) (wPre H 256) k)) (lv:Int) (pg:Int)=hv:=⟨_,rfl⟩
       have HQ:Hid (∀ wX:World,wX.heap[gp]?=wq.heap[gp]?->wX.heap[wr.heap.size]?=wq.heap[wr.heap.size]?->wX.heap[M]?=wq.heap[M]?->wX.cell? ⟨gp,2,none⟩=some (.map (some M))/\wX.cell? ⟨wr.heap.size,0,none⟩=some (.int .i64 lv)/\wX.cell? ⟨wr.heap.size,1,none⟩=some (.int .i64 pg)/\(Instr.lookup 89 (.map (some M)) (kV lv pg) true).run Tryz.prog wX=.ok (.tuple #[hv,.bool (!bf)]) wX):=fun wX e1 e2 e3 =>
        ⟨(cob e1).trans ((hbq.cell (p:=⟨gp,2,none⟩) hss.pst.lt).trans hss.pst.c2),(cob e2).trans s0,(cob e2).trans s1,by
         have:=run_look M (hmOf (keptL H ps) (frTo (keptL H ps) (wPre H 256) k)) (lv:Int) (pg:Int) true wX ((hss.pst.map.below hbq).of_block e3)
         rw [hsm,hhv,if_pos rfl] at this
         exact this⟩
       have HZV:Hid (∃ a b,hv=.agg #[.int .i64 a,.bool b]):=hidOf <| by
        rw [<- hhv]
        unfold lookV
        split
        ·exact ⟨_,_,rfl⟩
        ·exact ⟨0,false,rfl⟩
       obtain ⟨va,vb,rfl⟩:=HZV.out
       have HTK:Hid _:=htk
       have HSS:Hid _:=hss
       have HCF:Hid (oB aC ≠ some gF):=hcf
       have HWQ:Hid (wq=_):=hwq
       have HBQ:Hid (Below wr.heap.size wr wq):=hbq
       have HZQ:Hid (wq.heap.size=wr.heap.size+1):=hzq
       have N1:wr.heap.size < wq.heap.size:=by omega
       have N3:gp < wr.heap.size:=hss.pst.lt
       have N2:gp < wq.heap.size:=by omega
       have N4:M < wr.heap.size:=hss.pst.map.lt
       have N5:M < wq.heap.size:=by omega
       obtain ⟨k2,s0,s1,lk⟩:=HQ.out wq rfl rfl rfl
       clear htk hss hcf hwq hbq hzq hsm hhv HZV hbf lk
       go_wp2_with fail
       rw [<- HWQ.out]
       refine wp_region_held_drew (S:=fun wX:World=>wX.cell? ⟨gp,2,none⟩=some (.map (some M))/\wX.cell? ⟨wr.heap.size,0,none⟩=some (.int .i64 lv)/\wX.cell? ⟨wr.heap.size,1,none⟩=some (.int .i64 pg)/\(Instr.lookup 89 (.map (some M)) (kV lv pg) true).run Tryz.prog wX=.ok (.tuple #[.agg #[.int .i64 va,.bool vb],.bool (!bf)]) wX) (by kernel_rfl) (HQ.out wq.drew rfl rfl rfl) (fun hHeld=>?_)
       refine tk 0 ?_
       refine tk 1 ?_
       refine tk 2 ?_
       refine tk 3 ?_
       refine tk 4 ?_
       refine tk 5 ?_
       refine tk 6 ?_
       refine tk 7 ?_
       refine tk 8 ?_
       refine wpAnyH_ready (rs:=[9]) (by kernel_rfl) (by simp) ?_
       refine AllReadyH.cons rfl (fun K hK=>?_) AllReadyH.nil
       go_simp
       refine hK.out _ _ (HQ.out _ (Below.heap_alloc _ _ _ N2) (Below.heap_alloc _ _ _ N1) (Below.heap_alloc _ _ _ N5)) (fun hHeld2=>?_)
       clear hK K
       refine wpAnyH_ready (rs:=[10]) (by kernel_rfl) (by simp) ?_
       refine AllReadyH.cons rfl (fun K hK=>?_) AllReadyH.nil
       go_simp
       refine hK.out _ _ (HQ.out _ (Below.heap_alloc _ _ _ N2) (Below.heap_alloc _ _ _ N1) (Below.heap_alloc _ _ _ N5)) (fun hHeld3=>?_)
       clear hK K
       refine tk 11 ?_
       refine wpAnyH_done (by kernel_rfl) ?_ _
       clear hHeld hHeld2 hHeld3
       obtain ⟨w18,hw18⟩:∃ w18,w18=wq.alloc (.cells #[.int .i64 va,.bool vb] 126):=⟨_,rfl⟩
       rw [<- hw18]
       have hb18:Below wq.heap.size wq w18:=by rw [hw18]; exact bal
       have HB18:Hid (Below wr.heap.size wr w18.drew):=hidOf <| (HBQ.out.trans (hb18.mono (by omega))).drew
       obtain ⟨k2,s0,s1,_⟩:=HQ.out w18 (hb18.block _ N2) (hb18.block _ N1) (hb18.block _ N5)
       have M1:wr.heap.size < w18.heap.size:=Nat.lt_of_lt_of_le N1 hb18.size
       have HBQ2:Hid (Below wq.heap.size wq w18):=hb18
       clear hw18 hb18
       cases bf
       ·have HF2:Hid (frTo (keptL H ps) (wPre H 256) (k+1)=frTo (keptL H ps) (wPre H 256) k):=hidOf <| by rw [HFS.out]; unfold frStep; rw [if_neg (of_decide_eq_false HBF.out)]
        have hS:=HSS.out.below HSEP.out HB18.out
        have hT:=HTK.out.tch (Tch.of_below (S:=fun _=>False) HB18.out) (fun f=>f) (fun f=>f)
        clear HNO HRM HFS
        go_wp2_with fail
        go_roundw
        case rel=>exact ⟨k+1,by omega,by go_num,aC,cC,by rw [HF2.out]; exact hT,by rw [HF2.out]; exact hS,HCF.out⟩
        case measure=>simp [intOf]; omega
       ·have hneg:=of_decide_eq_true HBF.out
        have hrm:=HRM.out hneg
        have hno:=HNO.out hneg
        have hlow:=(lowF_spec (keptL H ps ++ frTo (keptL H ps) (wPre H 256) k)).1
        have hfl:=free_low (keptL H ps ++ frTo (keptL H ps) (wPre H 256) k) n lv pg (by omega)
        have HF2:Hid (frTo (keptL H ps) (wPre H 256) (k+1)=frTo (keptL H ps) (wPre H 256) k ++ [⟨(lowF (keptL H ps ++ frTo (keptL H ps) (wPre H 256) k):Nat),lv,pg⟩]):=hidOf <| by rw [HFS.out]; unfold frStep; rw [if_pos hneg]
        have hfn:=frTo_len (keptL H ps) (wPre H 256) k hk
        generalize lowF (keptL H ps ++ frTo (keptL H ps) (wPre H 256) k)=LW at hlow hfl HF2
        rw [List.append_assoc] at hfl
        have HTK2:Hid (TakeAt wr w.heap.size gF ((LW:Int) :: freeL (keptL H ps ++ (frTo (keptL H ps) (wPre H 256) k ++ [⟨(LW:Int),lv,pg⟩])) n)):=hidOf <| by rw [<- hfl]; exact HTK.out
        generalize frTo (keptL H ps) (wPre H 256) k=FS at *
        obtain ⟨r,hr⟩:∃ r,freeL (keptL H ps ++ (FS ++ [⟨(LW:Int),lv,pg⟩])) n=r:=⟨_,rfl⟩
        rw [hr] at HTK2
        have HR:Hid (freeL (keptL H ps ++ (FS ++ [⟨(LW:Int),lv,pg⟩])) n=r):=hr
        obtain ⟨c,o,y0,y1,y2,y3,y4,y5,hnx⟩:=takeStep HSEP.out HSS.out HTK2.out HB18.out
        have htak:=takeS_any w.heap.size 0 gF o c r.length LW w18.drew y4 y5 y0 y1 y2 y3
        have HNX:Hid _:=hnx
        clear hneg hrm hfl hr y0 y1 y2 y3 y5 hnx HNO HRM HFS HTK
        go_wp2_with fail
        refine htak.mono ?_
        rintro e w20 ⟨rfl,A',hA,hw20⟩
        obtain ⟨hT20,hS20⟩:=HNX.out A' hA
        rw [<- hw20] at hT20 hS20
        have hne20:∀ k,k ≠ w.heap.size->w20.heap[k]?=w18.heap[k]?:=fun k hk=>by rw [hw20]; exact Below.heap_setCell _ _ _ _ hk
        have hwr:w.heap.size < wr.heap.size:=by have:=HTK2.out.lt; exact this
        have hq20:=HQ.out w20 ((hne20 gp (by omega)).trans (HBQ2.out.block _ N2)) ((hne20 _ (by omega)).trans (HBQ2.out.block _ N1)) ((hne20 M (by have:=HSEP.out.m; omega)).trans (HBQ2.out.block _ N5))
        have N20:wr.heap.size < w20.heap.size:=by have h9:w20.heap.size=w18.heap.size:=(by rw [hw20]; simp); omega
        have HT20:Hid _:=hT20
        have HS20:Hid _:=hS20
        clear htak HNX hT20 hS20 hw20 hne20 hA k2 s0 s1
        obtain ⟨k2,s0,s1,_⟩:=hq20
        obtain ⟨w21,hput,hm21,hg21,hz21⟩:=run_put M (hmOf (keptL H ps) FS) ⟨lv,pg,LW,false⟩ w20.drew (HS20.out.pst.map.of_block rfl) hno
        have HM21:Hid (MapIs w21 M (hmOf (keptL H ps) (FS ++ [⟨(LW:Int),lv,pg⟩]))):=hidOf <| by rw [hm_snocF]; exact hm21
        have HG21:Hid (w20.grownBy w21 (some M)):=grown_both (grown_drew w20 _) hg21
        have e21:∀ k,k < w20.heap.size->k ≠ M->w21.heap[k]?=w20.heap[k]?:=fun k hk hn=>HG21.out.block k hk (fun e=>hn (by simpa using e))
        have hgm:gp ≠ M:=fun e=>HSEP.out.mp e.symm
        have b21:=e21 wr.heap.size N20 (by omega)
        have b21g:=e21 gp (by omega) hgm
        have c21:w21.cell? ⟨gp,3,none⟩=some (.slice aC FS.length cC):=(cob b21g).trans HS20.out.c3
        have f21:w21.frozen? ⟨gp,3,none⟩=false:=(fob b21g).trans HS20.out.f3
        have t0:w21.cell? ⟨wr.heap.size,0,none⟩=some (.int .i64 lv):=(cob b21).trans s0
        have t1:w21.cell? ⟨wr.heap.size,1,none⟩=some (.int .i64 pg):=(cob b21).trans s1
        have k21:w21.cell? ⟨gp,2,none⟩=some (.map (some M)):=(cob b21g).trans k2
        have N21:wr.heap.size < w21.heap.size:=by have:=HG21.out.size; omega
        clear hm21 hg21 hz21 e21 b21 b21g
        dsimp only at hput
        go_wp2_with fail
        refine wp_region_held_drew (S:=fun wX=>wX.cell? ⟨gp,2,none⟩=some (.map (some M))/\wX.cell? ⟨wr.heap.size,0,none⟩=some (.int .i64 lv)/\wX.cell? ⟨wr.heap.size,1,none⟩=some (.int .i64 pg)) (by kernel_rfl) ⟨k2,s0,s1⟩ (fun hHeld=>?_)
        refine tk 0 ?_
        refine tk 1 ?_
        refine tk 2 ?_
        refine tk 3 ?_
        refine tk 4 ?_
        refine tk 5 ?_
        refine tk 6 ?_
        refine wpAnyH_ready (rs:=[7]) (by kernel_rfl) (by simp) ?_
        refine AllReadyH.cons rfl (fun K hK=>?_) AllReadyH.nil
        go_simp
        refine hK.out _ _ ⟨k21,t0,t1⟩ (fun hHeld2=>?_)
        clear hK K
        refine wpAnyH_done (by kernel_rfl) ?_ _
        clear hHeld hHeld2 hput k2 s0 s1
        go_wp2_with fail
        have S21:=HS20.out.put HSEP.out HG21.out HM21.out
        have HN21:Hid (∀ j u,[Value.int .i64 LW,.int .i64 lv,.int .i64 pg][j]?=some u->(w21.alloc (.cells #[.int .i64 LW,.int .i64 lv,.int .i64 pg] 62)).drew.cell? ((⟨w21.heap.size,0,none⟩:Addr).add j)=some u):=fun j u hu=>World.news_of_block (heap_alloc_new w21 (.cells #[.int .i64 LW,.int .i64 lv,.int .i64 pg] 62)) j u hu
        have HC21:Hid (World.ownsRow (w21.alloc (.cells #[.int .i64 LW,.int .i64 lv,.int .i64 pg] 62)).drew (w.heap.size+1) 62 3 (.slice aC FS.length cC) FS.length (ecells ePl FS)):=S21.crow.below (bal.drew)
        have HBA:Hid (w.heap.size+1<=w21.heap.size):=hidOf <| by have:=HTK2.out.lt; omega
        have HOC:Hid (∀ k,oB aC=some k->w.heap.size+1<=k/\k < w21.heap.size):=S21.ownC
        have HPW:Hid (gp < w.heap.size):=hlt
        have N22:gp < w21.heap.size:=by omega
        have HMK:Hid (∀ (wA:World) g1 cap1,wA.ownsRow (w.heap.size+1) 62 3 (.slice (some ⟨g1,0,none⟩) (FS.length+1) cap1) (FS.length+1) (ecells ePl FS ++ [.int .i64 LW,.int .i64 lv,.int .i64 pg])->(w21.alloc (.cells #[.int .i64 LW,.int .i64 lv,.int .i64 pg] 62)).drew.grownBy wA (Value.slice aC FS.length cC).ownBlock->((Value.slice aC FS.length cC).ownBlock=some g1\/g1=w21.heap.size+1)->SS w (wA.setCell ⟨gp,3,none⟩ (.slice (some ⟨g1,0,none⟩) (FS.length+1) cap1)) gp gz cz gl M zs H (hmOf (keptL H ps) (FS ++ [⟨(LW:Int),lv,pg⟩])) aR cR (retL (goneL H ps) n) (some ⟨g1,0,none⟩) cap1 (FS ++ [⟨(LW:Int),lv,pg⟩])/\TakeAt (wA.setCell ⟨gp,3,none⟩ (.slice (some ⟨g1,0,none⟩) (FS.length+1) cap1)) w.heap.size gF r/\oB (some ⟨g1,0,none⟩) ≠ some gF):=fun wA g1 cap1 h1 h2 h3=>by
         have hlen:(FS ++ [(⟨(LW:Int),lv,pg⟩:P3)]).length=FS.length+1:=by simp
         rw [own_sl] at h2 h3
         have:=makeStep (cr':=FS ++ [⟨(LW:Int),lv,pg⟩]) (cC':=cap1) (g1:=g1) HSEP.out HS20.out HT20.out HCF.out HGW.out HG21.out HM21.out ((bal (w:=w21) (o:=.cells #[.int .i64 LW,.int .i64 lv,.int .i64 pg] 62)).drew) (by unfold ERow; rw [hlen,ecells_append]; exact h1) h2 (h3.imp id (fun e=>by omega))
         rw [hlen] at this
         exact this
        clear HS20 HT20 HM21 HG21 S21 HTK2
        refine wp_region_held_drew (S:=fun wX=>wX.cell? ⟨wr.heap.size,0,none⟩=some (.int .i64 lv)/\wX.cell? ⟨wr.heap.size,1,none⟩=some (.int .i64 pg)) (by kernel_rfl) ⟨t0,t1⟩ (fun hHeld=>?_)
        refine tk 0 ?_
        refine tk 1 ?_
        refine tk 2 ?_
        refine tk 3 ?_
        refine tk 5 ?_
        refine tk 6 ?_
        refine tk 7 ?_
        refine tk 8 ?_
        refine tk 9 ?_
        refine tk 10 ?_
        have t0a:(w21.alloc (.cells #[.int .i64 LW,.int .i64 lv,.int .i64 pg] 62)).cell? ⟨wr.heap.size,0,none⟩=some (.int .i64 lv):=(bal.cell (p:=⟨wr.heap.size,0,none⟩) N21).trans t0
        have t1a:(w21.alloc (.cells #[.int .i64 LW,.int .i64 lv,.int .i64 pg] 62)).cell? ⟨wr.heap.size,1,none⟩=some (.int .i64 pg):=(bal.cell (p:=⟨wr.heap.size,1,none⟩) N21).trans t1
        refine wpAnyH_ready (rs:=[4,11]) (by kernel_rfl) (by simp) ?_
        refine AllReadyH.cons rfl (fun K hK=>?_) (AllReadyH.cons rfl (fun K hK=>?_) AllReadyH.nil)
        ·go_simp
         refine hK.out _ _ ⟨t0,t1⟩ (fun hHeld2=>?_)
         clear hK K
         refine wpAnyH_ready (rs:=[11]) (by kernel_rfl) (by simp) ?_
         refine AllReadyH.cons rfl (fun K hK=>?_) AllReadyH.nil
         go_simp
         refine hK.out _ _ ⟨t0a,t1a⟩ (fun hHeld3=>?_)
         clear hK K
         refine wpAnyH_ready (rs:=[12]) (by kernel_rfl) (by simp) ?_
         refine AllReadyH.cons rfl (fun K hK=>?_) AllReadyH.nil
         refine step_append_lies _ rfl (.tmp 93) (.tmp 100) 52 rfl (w.heap.size+1) 62 iP _ 3 24 Tryz.underlying52 hiP hzP0 hzP1 hzP2 rfl (by omega) (.slice aC FS.length cC) FS.length (ecells ePl FS) rfl HC21.out ⟨w21.heap.size,0,none⟩ 1 1 [.int .i64 LW,.int .i64 lv,.int .i64 pg] rfl rfl HN21.out ?c2 (by omega) ?c3 ?c4 ?c5 (w21.heap.size+1) ?c6 ?_
         case c2=>intro u hu; simp at hu; rcases hu with rfl | rfl | rfl <;> rfl
         case c3=>unfold maxLen; omega
         case c4=>omega
         case c5=>have:=HBA.out; simp; omega
         case c6=>simp
         intro g1 cap1 w22 hown hgrow hat hlt22
         have hmk:=HMK.out w22 g1 cap1 hown hgrow hat
         have hbk:∀ k,k < w21.heap.size->k < w.heap.size+1\/oB aC ≠ some k->w22.heap[k]?=w21.heap[k]?:=fun k hk hn=>(hgrow.block k (by simp; omega) (fun e=>by
          rw [own_sl] at e
          rcases hn with hn | hn
          ·have:=(HOC.out k e.symm).1; omega
          ·exact hn e.symm)).trans (Below.heap_alloc w21 _ _ hk)
         have g22:=hbk gp N22 (.inl (by have:=HPW.out; omega))
         have c22:w22.cell? ⟨gp,3,none⟩=some (.slice aC FS.length cC):=(cob g22).trans c21
         have f22:w22.frozen? ⟨gp,3,none⟩=false:=(fob g22).trans f21
         have N23:gp < w22.heap.size:=by have:=hgrow.size; simp at this; omega
         have s22:=hbk wr.heap.size N21 (.inr (fun e=>by have:=(HSS.out.ownC _ e).2; omega))
         have t02:w22.cell? ⟨wr.heap.size,0,none⟩=some (.int .i64 lv):=(cob s22).trans t0
         have t12:w22.cell? ⟨wr.heap.size,1,none⟩=some (.int .i64 pg):=(cob s22).trans t1
         have HS15:Hid (∀ v,(w22.setCell ⟨gp,3,none⟩ v).cell? ⟨wr.heap.size,0,none⟩=some (.int .i64 lv)/\(w22.setCell ⟨gp,3,none⟩ v).cell? ⟨wr.heap.size,1,none⟩=some (.int .i64 pg)):=fun v=>⟨(World.cell?_setCell_other _ _ _ _ (fun e=>by simp only [Addr.mk.injEq] at e; omega)).trans t02,(World.cell?_setCell_other _ _ _ _ (fun e=>by simp only [Addr.mk.injEq] at e; omega)).trans t12⟩
         clear hbk hown hgrow hat hlt22 g22 s22
         go_simp
         refine hK.out _ _ ⟨t02,t12⟩ (fun hHeld4=>?_)
         clear hK K
         refine tk 13 ?_
         refine tk 14 ?_
         refine wpAnyH_ready (rs:=[15]) (by kernel_rfl) (by simp) ?_
         refine AllReadyH.cons rfl (fun K hK=>?_) AllReadyH.nil
         go_simp
         refine hK.out _ _ (HS15.out _) (fun hHeld5=>?_)
         clear hK K
         refine wpAnyH_done (by kernel_rfl) ?_ _
         clear hHeld hHeld2 hHeld3 hHeld4 hHeld5
         go_wp2_with fail
         go_roundw
         case rel=>exact ⟨k+1,by omega,by go_num,some ⟨g1,0,none⟩,cap1,by rw [HF2.out,HR.out]; exact hmk.2.1,by rw [HF2.out]; exact hmk.1,hmk.2.2⟩
         case measure=>simp [intOf]; omega
        ·go_simp
         refine hK.out _ _ ⟨t0a,t1a⟩ (fun hHeld2=>?_)
         clear hK K
         refine wpAnyH_ready (rs:=[4]) (by kernel_rfl) (by simp) ?_
         refine AllReadyH.cons rfl (fun K hK=>?_) AllReadyH.nil
         go_simp
         refine hK.out _ _ ⟨t0a,t1a⟩ (fun hHeld3=>?_)
         clear hK K
         refine wpAnyH_ready (rs:=[12]) (by kernel_rfl) (by simp) ?_
         refine AllReadyH.cons rfl (fun K hK=>?_) AllReadyH.nil
         refine step_append_lies _ rfl (.tmp 93) (.tmp 100) 52 rfl (w.heap.size+1) 62 iP _ 3 24 Tryz.underlying52 hiP hzP0 hzP1 hzP2 rfl (by omega) (.slice aC FS.length cC) FS.length (ecells ePl FS) rfl HC21.out ⟨w21.heap.size,0,none⟩ 1 1 [.int .i64 LW,.int .i64 lv,.int .i64 pg] rfl rfl HN21.out ?c2 (by omega) ?c3 ?c4 ?c5 (w21.heap.size+1) ?c6 ?_
         case c2=>intro u hu; simp at hu; rcases hu with rfl | rfl | rfl <;> rfl
         case c3=>unfold maxLen; omega
         case c4=>omega
         case c5=>have:=HBA.out; simp; omega
         case c6=>simp
         intro g1 cap1 w22 hown hgrow hat hlt22
         have hmk:=HMK.out w22 g1 cap1 hown hgrow hat
         have hbk:∀ k,k < w21.heap.size->k < w.heap.size+1\/oB aC ≠ some k->w22.heap[k]?=w21.heap[k]?:=fun k hk hn=>(hgrow.block k (by simp; omega) (fun e=>by
          rw [own_sl] at e
          rcases hn with hn | hn
          ·have:=(HOC.out k e.symm).1; omega
          ·exact hn e.symm)).trans (Below.heap_alloc w21 _ _ hk)
         have g22:=hbk gp N22 (.inl (by have:=HPW.out; omega))
         have c22:w22.cell? ⟨gp,3,none⟩=some (.slice aC FS.length cC):=(cob g22).trans c21
         have f22:w22.frozen? ⟨gp,3,none⟩=false:=(fob g22).trans f21
         have N23:gp < w22.heap.size:=by have:=hgrow.size; simp at this; omega
         have s22:=hbk wr.heap.size N21 (.inr (fun e=>by have:=(HSS.out.ownC _ e).2; omega))
         have t02:w22.cell? ⟨wr.heap.size,0,none⟩=some (.int .i64 lv):=(cob s22).trans t0
         have t12:w22.cell? ⟨wr.heap.size,1,none⟩=some (.int .i64 pg):=(cob s22).trans t1
         have HS15:Hid (∀ v,(w22.setCell ⟨gp,3,none⟩ v).cell? ⟨wr.heap.size,0,none⟩=some (.int .i64 lv)/\(w22.setCell ⟨gp,3,none⟩ v).cell? ⟨wr.heap.size,1,none⟩=some (.int .i64 pg)):=fun v=>⟨(World.cell?_setCell_other _ _ _ _ (fun e=>by simp only [Addr.mk.injEq] at e; omega)).trans t02,(World.cell?_setCell_other _ _ _ _ (fun e=>by simp only [Addr.mk.injEq] at e; omega)).trans t12⟩
         clear hbk hown hgrow hat hlt22 g22 s22
         go_simp
         refine hK.out _ _ ⟨t02,t12⟩ (fun hHeld4=>?_)
         clear hK K
         refine tk 13 ?_
         refine tk 14 ?_
         refine wpAnyH_ready (rs:=[15]) (by kernel_rfl) (by simp) ?_
         refine AllReadyH.cons rfl (fun K hK=>?_) AllReadyH.nil
         go_simp
         refine hK.out _ _ (HS15.out _) (fun hHeld5=>?_)
         clear hK K
         refine wpAnyH_done (by kernel_rfl) ?_ _
         clear hHeld hHeld2 hHeld3 hHeld4 hHeld5
         go_wp2_with fail
         go_roundw
         case rel=>exact ⟨k+1,by omega,by go_num,some ⟨g1,0,none⟩,cap1,by rw [HF2.out,HR.out]; exact hmk.2.1,by rw [HF2.out]; exact hmk.1,hmk.2.2⟩
         case measure=>simp [intOf]; omega
      ·have ek:k=(wPre H 256).length:=by omega
       subst ek
       go_wp2_with fail
       refine bodyPost_end (v:=.tuple #[]) (by simp [results,Tryz.results47,go_sem]) rfl ?_
       exact ⟨rfl,aR,cR,aC,cC,hss⟩
end Go.Proofs.YtnmhkgmmpkjjeacGreat
