import Derived.Test.YtnmhkgmmpkjjeacGreatG26
import Derived.Test.YtnmhkgmmpkjjeacGreatG28
import Derived.Test.YtnmhkgmmpkjjeacGreatG29
namespace Go.Proofs.YtnmhkgmmpkjjeacGreat
open Go.ChangeShapes Go.WideShapes Go.ChangeAt Go.RowKit
set_option linter.unusedVariables false
set_option maxRecDepth 100000
attribute [local go_sem ↓] Go.wp_at_zero Go.wp_at_succ
theorem bitZ_any (x:Int) (h0:0<=x) (h1:x < 18446744073709551616) (w:World) :
  Calls Tryz.prog 36 #[.int .u64 x,.int .i64 0] w fun e w'=>e=.returned (.int .i64 (x % 2))/\w'=w:=by
 have hfl:∀ w:World,Calls Tryz.prog 62 #[.int .u64 x,.int .i64 0,.int .i64 1] w fun e w'=>e=.returned (.int .u64 (x % 2))/\w'=w:=fun w=>by
  go_enter Tryz.func62,Tryz.ntmps62
  go_wp2_with fail
  go_ret
  exact ⟨rfl,rfl⟩
 have hm:0<=x % 2/\x % 2 < 2:=by omega
 go_enter Tryz.func36,Tryz.ntmps36
 go_wp2_with (go_at_call 62; refine (hfl _).mono ?_; rintro e w1 ⟨rfl,hw1⟩; obtain rfl:=hw1.symm)
 go_ret
 exact ⟨rfl,rfl⟩
def planF (zs:List Int) (xs:List SpanE):List OpE × Int :=
 if ptree zs=false then ([],1) else if vsB xs=false then ([],2) else if nfr zs.length < ((wPre (lay xs) 256).length:Nat) then ([],3)
 else (planL zs (nfr zs.length).toNat (lay xs) (plist zs),0)
theorem planF_1 {zs:List Int} {xs:List SpanE} (h:ptree zs=false):planF zs xs=([],1):=by unfold planF; rw [if_pos h]
theorem planF_2 {zs:List Int} {xs:List SpanE} (h:ptree zs=true) (h2:vsB xs=false):planF zs xs=([],2):=by unfold planF; rw [if_neg (by rw [h]; decide),if_pos h2]
theorem planF_3 {zs:List Int} {xs:List SpanE} (h:ptree zs=true) (h2:vsB xs=true) (h3:nfr zs.length < ((wPre (lay xs) 256).length:Nat)):planF zs xs=([],3):=by unfold planF; rw [if_neg (by rw [h]; decide),if_neg (by rw [h2]; decide),if_pos h3]
theorem planF_0 {zs:List Int} {xs:List SpanE} (h:ptree zs=true) (h2:vsB xs=true) (h3:¬ nfr zs.length < ((wPre (lay xs) 256).length:Nat)):planF zs xs=(planL zs (nfr zs.length).toNat (lay xs) (plist zs),0):=by unfold planF; rw [if_neg (by rw [h]; decide),if_neg (by rw [h2]; decide),if_neg h3]
def PlanPost (w:World) (r:List OpE × Int) (e:Ending) (w':World):Prop :=
 ∃ a c,e=.returned (.tuple #[.slice a r.1.length c,.int .i64 r.2])/\ERow eOp w' w.heap.size (.slice a r.1.length c) r.1/\Below w.heap.size w w'
theorem frTo_room {H:Nat->Ht} {n:Nat} {ps:List P3} (hn:0 < n) (h:PlcOk n ps) (hw:(wPre H 256).length<=n) (k:Nat) (hk:k<=(wPre H 256).length):(keptL H ps ++ frTo (keptL H ps) (wPre H 256) k).length<=1100:=by
 have h1:=kept_le (H:=H) (n:=n) (by omega) h
 have h2:=List.countP_le_length (p:=isK (keptL H ps)) (l:=wPre H 256)
 have h3:=frTo_len (keptL H ps) (wPre H 256) k hk
 have h4:=wPre_len H 256
 rw [List.length_append]
 omega
theorem asP_at (s:List (Nat × Nat)) (k:Nat) (hk:k < s.length):pAt (asP s) k=⟨-1,(s[k]).1,(s[k]).2⟩:=by
 unfold pAt asP
 rw [List.getD_eq_getElem?_getD,List.getElem?_map,List.getElem?_eq_getElem hk]
 rfl
structure Thr (w wr:World) (v1 v2:Value) (l1 l2:List OpE) (gm:Nat) (mk:Nat->Bool):Prop where
 two:Two eOp eOp w wr v1 v2 l1 l2
 ne:∀ g n c,(v1=.slice (some ⟨g,0,none⟩) n c\/v2=.slice (some ⟨g,0,none⟩) n c)->gm ≠ g
 mark:wr.rowIs gm 4 4096 (fun p=>.bool (mk p))
 lo:w.heap.size<=gm
theorem Thr.below {w wr w1:World} {v1 v2:Value} {l1 l2:List OpE} {gm:Nat} {mk:Nat->Bool} (h:Thr w wr v1 v2 l1 l2 gm mk) (hb:Below wr.heap.size wr w1):Thr w w1 v1 v2 l1 l2 gm mk :=
 ⟨h.two.below hb,h.ne,h.mark.of_block (hb.block gm h.mark.lt),h.lo⟩
theorem Thr.push1 {w w1 wn:World} {g1 c1 g1' c1':Nat} {v2:Value} {l1 l2:List OpE} {x:OpE} {o:Obj} {gm:Nat} {mk:Nat->Bool} (h:Thr w w1 (.slice (some ⟨g1,0,none⟩) l1.length c1) v2 l1 l2 gm mk) (hown:wn.ownsRow w.heap.size eOp.T eOp.sz (.slice (some ⟨g1',0,none⟩) (l1.length+1) c1') (l1.length+1) (ecells eOp l1 ++ eOp.enc x)) (hgrow:(w1.alloc o).grownBy wn (Value.ownBlock (.slice (some ⟨g1,0,none⟩) l1.length c1))) (hat:Value.ownBlock (.slice (some ⟨g1,0,none⟩) l1.length c1)=some g1'\/g1'=w1.heap.size+1) :
  Thr w wn (.slice (some ⟨g1',0,none⟩) (l1.length+1) c1') v2 (l1 ++ [x]) l2 gm mk:=by
 have hl:=h.mark.lt
 refine ⟨Two.push1 h.two hown hgrow hat,?_,?_,h.lo⟩
 ·intro g n c hh
  rcases hh with hh | hh
  ·simp only [Value.slice.injEq,Option.some.injEq,Addr.mk.injEq,and_true] at hh
   obtain ⟨rfl,_⟩:=hh
   rcases hat with e | e
   ·have e':some g1=some g1':=e
    simp only [Option.some.injEq] at e'
    rw [<- e']
    exact h.ne g1 _ _ (.inl rfl)
   ·omega
  ·exact h.ne g n c (.inr hh)
 ·have hne:some gm ≠ Value.ownBlock (.slice (some ⟨g1,0,none⟩) l1.length c1):=fun e=>h.ne g1 _ _ (.inl rfl) (by have e':some gm=some g1:=e; simpa using e')
  exact h.mark.of_block ((hgrow.block gm (by simp; omega) hne).trans (Below.heap_alloc _ _ _ hl))
theorem Thr.swap {w wr:World} {v1 v2:Value} {l1 l2:List OpE} {gm:Nat} {mk:Nat->Bool} (h:Thr w wr v1 v2 l1 l2 gm mk):Thr w wr v2 v1 l2 l1 gm mk:=⟨h.two.swap,fun g n c hh=>h.ne g n c hh.symm,h.mark,h.lo⟩
theorem Thr.push2 {w w1 wn:World} {g2 c2 g2' c2':Nat} {v1:Value} {l1 l2:List OpE} {x:OpE} {o:Obj} {gm:Nat} {mk:Nat->Bool} (h:Thr w w1 v1 (.slice (some ⟨g2,0,none⟩) l2.length c2) l1 l2 gm mk) (hown:wn.ownsRow w.heap.size eOp.T eOp.sz (.slice (some ⟨g2',0,none⟩) (l2.length+1) c2') (l2.length+1) (ecells eOp l2 ++ eOp.enc x)) (hgrow:(w1.alloc o).grownBy wn (Value.ownBlock (.slice (some ⟨g2,0,none⟩) l2.length c2))) (hat:Value.ownBlock (.slice (some ⟨g2,0,none⟩) l2.length c2)=some g2'\/g2'=w1.heap.size+1) :
  Thr w wn v1 (.slice (some ⟨g2',0,none⟩) (l2.length+1) c2') l1 (l2 ++ [x]) gm mk:=(Thr.push1 h.swap hown hgrow hat).swap
theorem Thr.set {w wr:World} {v1 v2:Value} {l1 l2:List OpE} {gm:Nat} {mk mk':Nat->Bool} {p:Nat} (h:Thr w wr v1 v2 l1 l2 gm mk) (hm:∀ q,mk' q=(mk q || decide (q=p))):Thr w (wr.setCell ⟨gm,p,none⟩ (.bool true)) v1 v2 l1 l2 gm mk':=by
 obtain ⟨⟨⟨g1,c1,g2,c2,e1,e2,h1,h2,hne⟩,hbel⟩,hn,hmk,hlo⟩:=h
 have n1:gm ≠ g1:=hn g1 _ _ (.inl e1)
 have n2:gm ≠ g2:=hn g2 _ _ (.inr e2)
 have hg:wr.grownBy (wr.setCell ⟨gm,p,none⟩ (.bool true)) (some gm):=eGrown_set (World.grownBy.refl _ _) _ _
 refine ⟨⟨⟨g1,c1,g2,c2,e1,e2,h1.kept hg ?_,h2.kept hg ?_,hne⟩,hbel.setCell hlo _⟩,hn,?_,hlo⟩
 ·intro k hk e
  have hk':some g1=some k:=hk
  rw [<- hk'] at e
  simp only [Option.some.injEq] at e
  exact n1 e.symm
 ·intro k hk e
  have hk':some g2=some k:=hk
  rw [<- hk'] at e
  simp only [Option.some.injEq] at e
  exact n2 e.symm
 ·have h5:=hmk.set p (.bool true)
  refine (show (wr.setCell ⟨gm,p,none⟩ (.bool true)).rowIs gm 4 4096 (fun q=>.bool (mk' q)) from ?_)
  have e:(fun q=>Value.bool (mk' q))=(fun q=>if q=p then Value.bool true else Value.bool (mk q)):=by
   funext q
   rw [hm q]
   by_cases hq:q=p
   ·rw [if_pos hq,decide_eq_true hq,Bool.or_true]
   ·rw [if_neg hq,decide_eq_false hq,Bool.or_false]
  rw [e]
  exact h5
theorem brkOps_succ (zs:List Int) (H:Nat->Ht) (all:List P3) (es:List En) (e:En):brkOps zs H all (es ++ [e])=brkOps zs H all es ++ (if brk zs H all e then [⟨1,e.ad,0,0⟩] else []):=by
 unfold brkOps
 rw [List.filter_append,List.map_append]
 cases h:brk zs H all e <;> simp [h]
theorem lnkOps_succ (zs:List Int) (H:Nat->Ht) (all:List P3) (es:List En) (e:En):lnkOps zs H all (es ++ [e])=lnkOps zs H all es ++ (if lnk zs H all e then [⟨1,e.ad,0,rgt H all e.lv e.pg⟩] else []):=by
 unfold lnkOps
 rw [List.filter_append,List.map_append]
 cases h:lnk zs H all e <;> simp [h]
theorem mkB_succ (zs:List Int) (H:Nat->Ht) (all:List P3) (es:List En) (e:En) (p:Nat):mkB zs H all (es ++ [e]) p=(mkB zs H all es p || (brk zs H all e && decide (e.pg<=p/\(p:Int) < e.pg+cov e.lv))):=by
 unfold mkB
 rw [List.any_append]
 simp
theorem brkOps_len (zs:List Int) (H:Nat->Ht) (all:List P3) (es:List En):(brkOps zs H all es).length<=es.length:=by
 unfold brkOps; rw [List.length_map]; exact List.length_filter_le _ _
theorem lnkOps_len (zs:List Int) (H:Nat->Ht) (all:List P3) (es:List En):(lnkOps zs H all es).length<=es.length:=by
 unfold lnkOps; rw [List.length_map]; exact List.length_filter_le _ _
theorem frOf_lt {n:Nat} {ps:List P3} (H:Nat->Ht) (hn:0 < n) (h:PlcOk n ps) (lv pg:Int):frOf (keptL H ps) lv pg < n:=by
 by_cases h0:0<=frOf (keptL H ps) lv pg
 ·obtain ⟨q,hq,_,_,e⟩:=frOf_mem h0
  rw [<- e]
  exact (h.fr (by omega) (kept_mem.1 hq).1).2
 ·omega
theorem ent_at {n:Nat} {ps:List P3} (H:Nat->Ht) (hn:0 < n) (h:PlcOk n ps) (i:Nat) (hi:i < (enTo (keptL H ps) 4096).length):∃ lv pg ad:Nat,eAt eEn (enTo (keptL H ps) 4096) i=⟨lv,pg,ad⟩/\1<=lv/\lv<=3/\pg+epg lv<=4096/\ad < n * 16:=by
 have hm:eAt eEn (enTo (keptL H ps) 4096) i ∈ enTo (keptL H ps) 4096:=by
  unfold eAt
  rw [List.getD_eq_getElem?_getD,List.getElem?_eq_getElem hi]
  exact List.getElem_mem hi
 obtain ⟨page,lv,hp,h1,h3,hmod,e1,e2,h0,e3⟩:=enTo_mem hm
 have hf:=frOf_lt H hn h lv (page - page % (epg lv * 16):Nat)
 obtain ⟨F,hF⟩:∃ F:Nat,frOf (keptL H ps) lv (page - page % (epg lv * 16):Nat)=F:=⟨(frOf (keptL H ps) lv (page - page % (epg lv * 16):Nat)).toNat,by omega⟩
 rw [hF] at e3 hf
 refine ⟨lv,page,F * 16+page / epg lv % 16,?_,h1,h3,?_,?_⟩
 ·rcases hx:eAt eEn (enTo (keptL H ps) 4096) i with ⟨a,b,c⟩
  rw [hx] at e1 e2 e3
  dsimp only at e1 e2 e3
  rw [e1,e2,e3]
  simp
 ·rcases (show lv=1\/lv=2\/lv=3 by omega) with rfl | rfl | rfl
  ·have:page % 256=0:=hmod
   show page+256<=4096
   omega
  ·have:page % 16=0:=hmod
   show page+16<=4096
   omega
  ·show page+1<=4096
   omega
 ·have:page / epg lv % 16 < 16:=Nat.mod_lt _ (by decide)
  omega
theorem eOp_new (w:World) (x:OpE):ERow eOp (w.alloc (.cells #[.int .i64 x.kind,.int .i64 x.a,.int .i64 x.b,.int .u64 x.word] 74)) w.heap.size (.slice (some ⟨w.heap.size,0,none⟩) 1 1) [x] :=
 ⟨by simp [ecells,eOp],.inr ⟨w.heap.size,1,#[.int .i64 x.kind,.int .i64 x.a,.int .i64 x.b,.int .u64 x.word],rfl,Nat.le_refl _,heap_alloc_new w _,Nat.le_refl _,by unfold maxLen; omega,by simp [eOp],by simp [ecells,eOp]⟩⟩
theorem appL (w wr:World) (v:Value) (l:List OpE) (a2:Option Addr) (c2 b2:Nat) (ys:List OpE) (hlen:l.length+ys.length<=100000) (h:LSt eOp w wr v l) (h2:ERow eOp wr b2 (.slice a2 ys.length c2) ys) (hne:∀ k,Value.ownBlock (.slice a2 ys.length c2)=some k->∀ g n c,v=.slice (some ⟨g,0,none⟩) n c->k ≠ g) :
  Calls Tryz.prog 38 #[v,.slice a2 ys.length c2] wr fun e w'=>∃ v',e=.returned v'/\LSt eOp w w' v' (l ++ ys)/\(∀ k,k < wr.heap.size->(∀ g n c,v=.slice (some ⟨g,0,none⟩) n c->k ≠ g)->w'.heap[k]?=wr.heap[k]?)/\wr.heap.size<=w'.heap.size/\(∀ g n c,v'=.slice (some ⟨g,0,none⟩) n c->wr.heap.size<=g\/∃ n c,v=.slice (some ⟨g,0,none⟩) n c):=by
 obtain ⟨⟨g,c,rfl,hr⟩,hbel⟩:=h
 refine (l5Append_any g c w.heap.size l a2 c2 b2 ys wr hlen hbel.size hr h2 (fun k hk=>hne k hk g _ _ rfl)).mono fun e w' ⟨v',he,hg⟩=>?_
 obtain ⟨⟨g',c',e',hr',hg'⟩,hgr⟩:=hg
 have hgl:=(hr.own g rfl).1
 refine ⟨v',he,⟨⟨g',c',e',hr'⟩,⟨hgr.os.trans hbel.os,hgr.tape.trans hbel.tape,hgr.output.trans hbel.output,Nat.le_trans hbel.size hgr.size,fun k hk=>?_⟩⟩,fun k hk hn=>hgr.block k hk (fun e=>hn g _ _ rfl (by simpa using e)),hgr.size,fun g0 n0 c0 e0=>?_⟩
 ·have h1:=hbel.size
  exact (hgr.block k (by omega) (fun e=>by have h9:k=g:=(by simpa using e); omega)).trans (hbel.block k hk)
 ·rw [e'] at e0
  simp only [Value.slice.injEq,Option.some.injEq,Addr.mk.injEq,and_true] at e0
  obtain ⟨rfl,_⟩:=e0
  rcases hg' with e | e
  ·exact .inr ⟨_,_,by rw [e]⟩
  ·exact .inl e
theorem freeTo_succ (gone:List P3) (t:Nat):freeOps (t+1) gone=freeOps t gone ++ (if hasFr gone (t:Nat) then [⟨4,(t:Nat),0,0⟩] else []):=by
 unfold freeOps
 rw [List.range_succ,List.filter_append,List.map_append]
 cases h:hasFr gone (t:Nat) <;> simp [h]
theorem freeOps_len (gone:List P3) (t:Nat):(freeOps t gone).length<=t:=by
 unfold freeOps
 rw [List.length_map]
 exact Nat.le_trans (List.length_filter_le _ _) (by rw [List.length_range]; omega)
theorem fillOne_succ (H:Nat->Ht) (all:List P3) (t:P3) (k:Nat):fillOne H all t (k+1)=fillOne H all t k ++ [⟨1,t.fr * 16+(k:Nat),0,rgt H all t.lv (t.pg+(k:Nat) * cov t.lv)⟩]:=by
 unfold fillOne
 rw [List.range_succ,List.map_append]
 rfl
theorem fillOne_len (H:Nat->Ht) (all:List P3) (t:P3) (k:Nat):(fillOne H all t k).length=k:=by unfold fillOne; simp
theorem fillTo_succ (H:Nat->Ht) (all fs:List P3) (t:Nat) (ht:t < fs.length):fillOps H all (fs.take (t+1))=fillOps H all (fs.take t) ++ fillOne H all (pAt fs t) 16:=by
 unfold fillOps
 rw [take_snocP fs t ht,List.flatMap_append]
 simp
theorem fillOps_len (H:Nat->Ht) (all fs:List P3):(fillOps H all fs).length=fs.length * 16:=by
 unfold fillOps
 induction fs with
 | nil=>rfl
 | cons p r ih=>rw [List.flatMap_cons,List.length_append,ih,fillOne_len,List.length_cons]; omega
theorem fillOps_nil (H:Nat->Ht) (all fs:List P3):fillOps H all fs=[] ↔ fs=[]:=by
 constructor
 ·intro h
  have:=fillOps_len H all fs
  rw [h] at this
  simp at this
  exact List.eq_nil_of_length_eq_zero (by omega)
 ·intro h; rw [h]; rfl
theorem headQ {BR T:List OpE} (h:¬ BR=[]):(if BR.isEmpty then [] else ((BR ++ [dsbO]) ++ T) ++ [dsbO])=(([] ++ BR ++ [dsbO]) ++ T) ++ [dsbO]:=by
 rw [if_neg (by rw [List.isEmpty_iff]; exact h),List.nil_append]
theorem posB {α:Type} {BR:List α} (h:¬ BR=[]):decide ((0:Int) < (BR.length:Int))=true:=decide_eq_true (by have:=List.length_pos_iff.2 h; omega)
theorem posB2 {α:Type} {BR:List α} (h:¬ BR=[]):decide (0 < BR.length)=true:=decide_eq_true (List.length_pos_iff.2 h)
theorem noB {α:Type} {BR:List α} (h:BR=[]):decide ((0:Int) < (BR.length:Int))=false/\decide (0 < BR.length)=false:=by subst h; exact ⟨rfl,rfl⟩
theorem sealF0 (H:Nat->Ht) (AL FR:List P3) (O2:List OpE) (h:FR=[]):O2 ++ sealO (fillOps H AL FR)=O2 ++ fillOps H AL FR:=by rw [(fillOps_nil H AL FR).2 h,sealO_nil]
theorem sealF1 (H:Nat->Ht) (AL FR:List P3) (O2:List OpE) (h:¬ FR=[]):O2 ++ sealO (fillOps H AL FR)=(O2 ++ fillOps H AL FR) ++ [dsbO]:=by rw [sealO_cons (fun e=>h ((fillOps_nil H AL FR).1 e)),List.append_assoc]
def EnOk (zs:List Int) (e:En):Prop:=∃ lv pg ad:Nat,e=⟨lv,pg,ad⟩/\1<=lv/\lv<=3/\pg+epg lv<=4096/\ad < zs.length
structure VisOk (V C:Nat) (zs:List Int) (H:Nat->Ht) (all:List P3) (wp:World) (Inv:(Nat->Prop)->List En->World->Prop):Prop where
 run:∀ (a b:Value) (w:World),(callFunc V #[a,b]).run Tryz.prog w=.ok (.enter V #[a,b]) w
 visit:∀ S es e wX,Inv S es wX->EnOk zs e->es.length<=100000->Calls Tryz.prog V #[enV5 zs H all e.lv e.pg e.ad,.pointer (some ⟨C,0,none⟩)] wX fun r w'=>r=.returned (.tuple #[])/\∃ S',Inv S' (es ++ [e]) w'/\Tch S wX w'/\(∀ k,k < wX.heap.size->S' k->S k)
 below:∀ S es wX wY,Inv S es wX->Below wX.heap.size wX wY->Inv S es wY
 pl:∀ S es wX,Inv S es wX->Below wp.heap.size wp wX
 lt:∀ S es wX,Inv S es wX->∀ k,S k->k < wX.heap.size
def VPost (Inv:(Nat->Prop)->List En->World->Prop) (S:Nat->Prop) (es:List En) (w:World) (r:Ending) (w':World):Prop :=
 r=.returned (.tuple #[])/\∃ S',Inv S' es w'/\Tch S w w'/\(∀ k,k < w.heap.size->S' k->S k)
def enStep (kept:List P3) (f:Nat) (t:P3) (i:Nat):List En:=enOf t i :: (if 0<=(enUnd kept t i).fr then enV kept f (enUnd kept t i) else [])
def enPre (kept:List P3) (f:Nat) (t:P3) (n:Nat):List En:=(List.range n).flatMap (enStep kept f t)
theorem enPre_succ (kept:List P3) (f:Nat) (t:P3) (n:Nat):enPre kept f t (n+1)=enPre kept f t n ++ enStep kept f t n:=by
 unfold enPre
 rw [List.range_succ,List.flatMap_append]
 simp
theorem enV_pre (kept:List P3) (f:Nat) (t:P3):enV kept (f+1) t=enPre kept f t 16:=rfl
def lenB:Nat->Nat
 | 0=>0
 | f+1=>16 * (1+lenB f)
theorem enV_len (kept:List P3):∀ (f:Nat) (t:P3),(enV kept f t).length<=lenB f
 | 0,t=>Nat.le_refl _
 | f+1,t=>by
  have h:∀ n,(enPre kept f t n).length<=n * (1+lenB f):=by
   intro n
   induction n with
   | zero=>exact Nat.zero_le _
   | succ n ih =>
    rw [enPre_succ,List.length_append,Nat.add_mul,Nat.one_mul]
    have:(enStep kept f t n).length<=1+lenB f:=by
     unfold enStep
     rw [List.length_cons]
     split
     ·have:=enV_len kept f (enUnd kept t n); omega
     ·simp
    omega
  exact h 16
theorem enPre_len (kept:List P3) (f:Nat) (t:P3):∀ n,(enPre kept f t n).length<=n * (1+lenB f)
 | 0=>Nat.zero_le _
 | n+1=>by
  have ih:=enPre_len kept f t n
  rw [enPre_succ,List.length_append,Nat.add_mul,Nat.one_mul]
  have:(enStep kept f t n).length<=1+lenB f:=by
   unfold enStep
   rw [List.length_cons]
   split
   ·have:=enV_len kept f (enUnd kept t n); omega
   ·simp
  omega
theorem look_kept {kept fs:List P3} {lv pg:Int} (h0:∀ q ∈ kept,0<=q.fr):∃ a,lookV (hmOf kept fs) lv pg=hV a (decide (0<=frOf kept lv pg))/\(0<=frOf kept lv pg->a=frOf kept lv pg):=by
 by_cases h:0<=frOf kept lv pg
 ·refine ⟨frOf kept lv pg,?_,fun _=>rfl⟩
  unfold lookV
  rw [hm_kept h,decide_eq_true h]
 ·rw [decide_eq_false h]
  unfold lookV
  cases hg:mGet (hmOf kept fs) lv pg with
  | none=>exact ⟨0,rfl,fun hh=>absurd hh h⟩
  | some x =>
   have:=hm_not h0 (Int.not_le.1 h) x hg
   exact ⟨x.fr,by dsimp only; rw [this],fun hh=>absurd hh h⟩
set_option maxHeartbeats 8000000 in
theorem visit_step (V C gp gz cz gl B:Nat) (zs:List Int) (H:Nat->Ht) (kept fs:List P3) (wp:World) (Inv:(Nat->Prop)->List En->World->Prop) (hI:VisOk V C zs H (kept ++ fs) wp Inv) (hP:PSt wp gp gz cz gl B zs H (hmOf kept fs)) (hO:PlOk zs H kept fs) (hzl:zs.length<=1048576)
  (f lv p fr:Nat) (h1:1<=lv) (h3:lv<=3) (hp:p+tpg lv<=4096) (hfr:fr * 16+16<=zs.length)
  (hrec:∀ (i:Nat) (S:Nat->Prop) (es:List En) wX,es.length+lenB f<=100000->i < 16->0<=frOf kept ((lv:Int)+1) (p+i * epg lv:Nat)->Inv S es wX->Calls Tryz.prog 128 #[.pointer (some ⟨gp,0,none⟩),.agg #[.int .i64 (frOf kept ((lv:Int)+1) (p+i * epg lv:Nat)),.int .i64 ((lv:Int)+1),.int .i64 (p+i * epg lv:Nat)],.func (.func V) #[] #[.pointer (some ⟨C,0,none⟩)]] wX (VPost Inv S (es ++ enV kept f ⟨frOf kept ((lv:Int)+1) (p+i * epg lv:Nat),(lv:Int)+1,(p+i * epg lv:Nat)⟩) wX)) :
  ∀ (S:Nat->Prop) (es:List En) w,es.length+lenB (f+1)<=100000->Inv S es w->Calls Tryz.prog 128 #[.pointer (some ⟨gp,0,none⟩),.agg #[.int .i64 fr,.int .i64 lv,.int .i64 p],.func (.func V) #[] #[.pointer (some ⟨C,0,none⟩)]] w (VPost Inv S (es ++ enV kept (f+1) ⟨fr,lv,p⟩) w):=by
 intro S es w hes hw
 have HLB:Hid (∀ i,i < 16->(es ++ enPre kept f ⟨fr,lv,p⟩ i).length+(1+lenB f)<=100000):=fun i hi=>by
  have h1:=enPre_len kept f ⟨fr,lv,p⟩ i
  have h2:(i+1) * (1+lenB f)<=16 * (1+lenB f):=Nat.mul_le_mul_right _ (by omega)
  have h3:lenB (f+1)=16 * (1+lenB f):=rfl
  rw [h3] at hes
  rw [Nat.add_mul,Nat.one_mul] at h2
  rw [List.length_append]
  omega
 rw [enV_pre]
 unfold VPost
 obtain ⟨wb,hwb⟩:∃ wb,wb=(w.alloc (.cells #[.int .i64 fr,.int .i64 lv,.int .i64 p] 62)).alloc (.cells #[.int .i64 lv,.int .i64 p] 122):=⟨_,rfl⟩
 have hbb:Below w.heap.size w wb:=by rw [hwb]; exact ((Below.refl _ _).alloc (Nat.le_refl _) _).alloc (by simp) _
 have hzb:wb.heap.size=w.heap.size+2:=by rw [hwb]; simp
 have q0:wb.cell? ⟨w.heap.size,0,none⟩=some (.int .i64 fr):=by rw [hwb]; simp [go_sem]
 have q1:wb.cell? ⟨w.heap.size,1,none⟩=some (.int .i64 lv):=by rw [hwb]; simp [go_sem]
 have q2:wb.cell? ⟨w.heap.size,2,none⟩=some (.int .i64 p):=by rw [hwb]; simp [go_sem]
 have s0:wb.cell? ⟨w.heap.size+1,0,none⟩=some (.int .i64 lv):=by rw [hwb]; simp [go_sem]
 have s1:wb.cell? ⟨w.heap.size+1,1,none⟩=some (.int .i64 p):=by rw [hwb]; simp [go_sem]
 have HQ:Hid (∀ wX:World,wX.heap[w.heap.size]?=wb.heap[w.heap.size]?->wX.heap[w.heap.size+1]?=wb.heap[w.heap.size+1]?->(wX.cell? ⟨w.heap.size,0,none⟩=some (.int .i64 fr)/\wX.cell? ⟨w.heap.size,1,none⟩=some (.int .i64 lv)/\wX.cell? ⟨w.heap.size,2,none⟩=some (.int .i64 p))/\(wX.cell? ⟨w.heap.size+1,0,none⟩=some (.int .i64 lv)/\wX.cell? ⟨w.heap.size+1,1,none⟩=some (.int .i64 p))):=fun wX e1 e2=>⟨⟨(cob e1).trans q0,(cob e1).trans q1,(cob e1).trans q2⟩,(cob e2).trans s0,(cob e2).trans s1⟩
 have HST:Hid (Inv S (es ++ enPre kept f ⟨fr,lv,p⟩ 0) wb/\Tch S w wb/\¬ S w.heap.size/\¬ S (w.heap.size+1)):=hidOf <| by
  have e0:enPre kept f ⟨fr,lv,p⟩ 0=[]:=rfl
  rw [e0,List.append_nil]
  exact ⟨hI.below S es w wb hw hbb,Tch.of_below hbb,fun h=>by have:=hI.lt S es w hw _ h; omega,fun h=>by have:=hI.lt S es w hw _ h; omega⟩
 have HVI:Hid (VisOk V C zs H (kept ++ fs) wp Inv):=hI
 have HPS:Hid (∀ S es wX,Inv S es wX->PSt wX gp gz cz gl B zs H (hmOf kept fs)):=fun S es wX h=>hP.below (hI.pl S es wX h)
 have HEN:Hid (∀ (i:Nat) wX,i < 16->PSt wX gp gz cz gl B zs H (hmOf kept fs)->Calls Tryz.prog 106 #[.pointer (some ⟨gp,0,none⟩),.agg #[.int .i64 fr,.int .i64 lv,.int .i64 p],.int .i64 i] wX fun e w'=>e=.returned (enV5 zs H (kept ++ fs) lv (p+i * epg lv:Nat) (fr * 16+i:Nat))/\Below wX.heap.size wX w'):=fun i wX hi hX=>entryOf_any gp gz cz gl B zs H kept fs fr lv p i wX hzl h1 h3 hi hp hfr hO hX
 have HREC:Hid _:=hrec
 have HX:Hid (∀ i:Nat,i < 16->p+i * epg lv+epg lv<=4096/\EnOk zs (enOf ⟨fr,lv,p⟩ i)/\enOf ⟨fr,lv,p⟩ i=⟨lv,(p+i * epg lv:Nat),(fr * 16+i:Nat)⟩/\enUnd kept ⟨fr,lv,p⟩ i=⟨frOf kept ((lv:Int)+1) (p+i * epg lv:Nat),(lv:Int)+1,(p+i * epg lv:Nat)⟩):=fun i hi=>by
  have hm:p+i * epg lv+epg lv<=4096:=by
   have h16:tpg lv=16 * epg lv:=by
    rcases (show lv=1\/lv=2\/lv=3 by omega) with rfl | rfl | rfl <;> rfl
   have:i * epg lv<=15 * epg lv:=Nat.mul_le_mul_right _ (by omega)
   omega
  have ec:=cov_epg lv
  have e1:(p:Int)+(i:Int) * cov (lv:Int)=((p+i * epg lv:Nat):Int):=by rw [ec]; simp
  have e2:enOf ⟨fr,lv,p⟩ i=⟨lv,(p+i * epg lv:Nat),(fr * 16+i:Nat)⟩:=by
   unfold enOf
   dsimp only
   rw [e1]
   simp
  refine ⟨hm,⟨lv,p+i * epg lv,fr * 16+i,e2,h1,h3,by omega,by omega⟩,e2,?_⟩
  unfold enUnd
  dsimp only
  rw [e1]
 have HK0:Hid (∀ q ∈ kept,0<=q.fr):=fun q hq=>hO.fr q (List.mem_append_left _ hq)
 have HSB:Hid (∀ (i:Nat) wX,i < 16->Calls Tryz.prog 91 #[.agg #[.int .i64 lv,.int .i64 p],.int .i64 i] wX fun e w'=>e=.returned (.agg #[.int .i64 ((lv:Int)+1),.int .i64 (p+i * epg lv:Nat)])/\Below wX.heap.size wX w'):=fun i wX hi=>by
  have:=seatBelow_any lv p i (by omega) (by omega) (by omega) (by omega) (by omega) (by omega) wX
  have e1:(p:Int)+(i:Int) * cov (lv:Int)=((p+i * epg lv:Nat):Int):=by rw [cov_epg lv]; simp
  rw [e1] at this
  exact this
 have HWB:Hid (wb=_):=hwb
 have HBB:Hid (Below w.heap.size w wb):=hbb
 have HZB:Hid (wb.heap.size=w.heap.size+2):=hzb
 have HWL:Hid (∀ S es wX,Inv S es wX->∀ k,S k->k < wX.heap.size):=hI.lt
 clear hw hI hP hO hrec hwb hbb hzb q0 q1 q2 s0 s1 hp hfr
 go_enter Tryz.func128,Tryz.ntmps128
 go_wp2_with fail
 rw [<- HWB.out]
 go_loopw [15] (fun iv wr=>∃ i:Nat,i<=16/\iv=.int .i64 i/\∃ S':Nat->Prop,Inv S' (es ++ enPre kept f ⟨fr,lv,p⟩ i) wr/\Tch S w wr/\(∀ k,k < w.heap.size->S' k->S k)/\wr.heap[w.heap.size]?=wb.heap[w.heap.size]?/\wr.heap[w.heap.size+1]?=wb.heap[w.heap.size+1]?/\w.heap.size+2<=wr.heap.size/\¬ S' w.heap.size/\¬ S' (w.heap.size+1)) (fun iv _=>16 - (intOf iv).toNat)
 case atStart=>exact ⟨0,Nat.zero_le _,rfl,S,HST.out.1,HST.out.2.1,fun k _ h=>h,rfl,rfl,by have:=HZB.out; omega,HST.out.2.2⟩
 case round =>
  obtain ⟨i,hi,rfl,S1,hinv,htch,hS1,hz1,hz2,hz3,hn1,hn2⟩:=hrel
  by_cases hlt:i < 16
  ·obtain ⟨hpg,heok,hen,hund⟩:=HX.out i hlt
   have hent:=HEN.out i wr hlt (HPS.out _ _ _ hinv)
   obtain ⟨⟨q0,q1,q2⟩,s0,s1⟩:=HQ.out wr hz1 hz2
   have HSTEP:Hid (enPre kept f ⟨fr,lv,p⟩ (i+1)=enPre kept f ⟨fr,lv,p⟩ i ++ (enOf ⟨fr,lv,p⟩ i :: (if 0<=(enUnd kept ⟨fr,lv,p⟩ i).fr then enV kept f (enUnd kept ⟨fr,lv,p⟩ i) else []))):=enPre_succ kept f _ i
   have HVIS:Hid (∀ wX,Below wr.heap.size wr wX->Calls Tryz.prog V #[enV5 zs H (kept ++ fs) lv (p+i * epg lv:Nat) (fr * 16+i:Nat),.pointer (some ⟨C,0,none⟩)] wX (VPost Inv S1 ((es ++ enPre kept f ⟨fr,lv,p⟩ i) ++ [enOf ⟨fr,lv,p⟩ i]) wX)):=fun wX hX=>by
    have:=HVI.out.visit S1 _ (enOf ⟨fr,lv,p⟩ i) wX (HVI.out.below _ _ _ _ hinv hX) heok (by have:=HLB.out i hlt; omega)
    rw [hen] at this ⊢
    exact this
   have HSB1:Hid _:=HSB.out i
   have HR1:Hid (∀ (S:Nat->Prop) (es:List En) wX,es.length+lenB f<=100000->0<=frOf kept ((lv:Int)+1) (p+i * epg lv:Nat)->Inv S es wX->_):=fun S es wX hl h=>HREC.out i S es wX hl hlt h
   rw [hund] at HSTEP
   dsimp only at HSTEP
   obtain ⟨X,hX⟩:∃ X,p+i * epg lv=X:=⟨_,rfl⟩
   obtain ⟨AD,hAD⟩:∃ AD,fr * 16+i=AD:=⟨_,rfl⟩
   rw [hX] at hent HSTEP HVIS hpg hund
   rw [hAD] at hent HVIS
   have HSB2:Hid (∀ wX,Calls Tryz.prog 91 #[.agg #[.int .i64 lv,.int .i64 p],.int .i64 i] wX fun e w'=>e=.returned (.agg #[.int .i64 ((lv:Int)+1),.int .i64 X])/\Below wX.heap.size wX w'):=fun wX=>by
    have:=HSB1.out wX hlt
    rw [hX] at this
    exact this
   have HR2:Hid (∀ (S:Nat->Prop) (es:List En) wX,es.length+lenB f<=100000->0<=frOf kept ((lv:Int)+1) X->Inv S es wX->Calls Tryz.prog 128 #[.pointer (some ⟨gp,0,none⟩),.agg #[.int .i64 (frOf kept ((lv:Int)+1) X),.int .i64 ((lv:Int)+1),.int .i64 X],.func (.func V) #[] #[.pointer (some ⟨C,0,none⟩)]] wX (VPost Inv S (es ++ enV kept f ⟨frOf kept ((lv:Int)+1) X,(lv:Int)+1,X⟩) wX)):=fun S es wX hl h1 h2=>by
    have:=HR1.out S es wX hl (by rw [hX]; exact h1) h2
    rw [hX] at this
    exact this
   generalize enV5 zs H (kept ++ fs) lv X AD=EV at hent HVIS
   generalize enOf ⟨fr,lv,p⟩ i=EE at HSTEP HVIS heok hen
   obtain ⟨la,hlook,hla⟩:=look_kept (kept:=kept) (fs:=fs) (lv:=(lv:Int)+1) (pg:=X) HK0.out
   have HLA:Hid (0<=frOf kept ((lv:Int)+1) X->la=frOf kept ((lv:Int)+1) X):=hla
   obtain ⟨kb,hkb⟩:∃ kb,decide (0<=frOf kept ((lv:Int)+1) X)=kb:=⟨_,rfl⟩
   have HKB:Hid (decide (0<=frOf kept ((lv:Int)+1) X)=kb):=hkb
   rw [hkb] at hlook
   have HLK:Hid (∀ wX,PSt wX gp gz cz gl B zs H (hmOf kept fs)->(Instr.lookup 89 (.map (some B)) (kV ((lv:Int)+1) X) false).run Tryz.prog wX=.ok (.agg #[.int .i64 la,.bool kb]) wX):=fun wX h=>by
    have:=run_look B (hmOf kept fs) ((lv:Int)+1) X false wX h.map
    rw [hlook] at this
    exact this
   have HINV:Hid (Inv S1 (es ++ enPre kept f ⟨fr,lv,p⟩ i) wr):=hinv
   have HTCH:Hid (Tch S w wr):=htch
   have HS1:Hid (∀ k,k < w.heap.size->S1 k->S k):=hS1
   have HZ1:Hid (wr.heap[w.heap.size]?=wb.heap[w.heap.size]?/\wr.heap[w.heap.size+1]?=wb.heap[w.heap.size+1]?):=⟨hz1,hz2⟩
   have HNS:Hid (¬ S1 w.heap.size/\¬ S1 (w.heap.size+1)):=⟨hn1,hn2⟩
   clear HSB1 HR1 hX hAD hund hla hlook hkb hinv htch hS1 hz1 hz2 hn1 hn2 heok hen
   go_wp2_with fail
   refine hent.mono ?_
   rintro e w1 ⟨rfl,hb1⟩
   have hvis:=HVIS.out w1 hb1
   have HB1:Hid (Below wr.heap.size wr w1):=hb1
   clear hent hb1
   go_wp2_with fail
   rw [HVI.out.run,Oper.upon_enter]
   refine hvis.mono ?_
   rintro e w2 ⟨rfl,S2,hinv2,htc2,hs2⟩
   have hw1:w.heap.size+2<=w1.heap.size:=Nat.le_trans hz3 HB1.out.size
   have bz1:w2.heap[w.heap.size]?=wb.heap[w.heap.size]?:=(htc2.block _ (by omega) HNS.out.1).trans ((HB1.out.block _ (by omega)).trans HZ1.out.1)
   have bz2:w2.heap[w.heap.size+1]?=wb.heap[w.heap.size+1]?:=(htc2.block _ (by omega) HNS.out.2).trans ((HB1.out.block _ (by omega)).trans HZ1.out.2)
   have HZ2:Hid (w2.heap[w.heap.size]?=wb.heap[w.heap.size]?/\w2.heap[w.heap.size+1]?=wb.heap[w.heap.size+1]?):=⟨bz1,bz2⟩
   have HNS2:Hid (¬ S2 w.heap.size/\¬ S2 (w.heap.size+1)):=⟨fun h=>HNS.out.1 (hs2 _ (by omega) h),fun h=>HNS.out.2 (hs2 _ (by omega) h)⟩
   have HT2:Hid (Tch S w w2):=(HTCH.out.then (Tch.of_below (S:=fun _=>False) HB1.out) (fun k _ h=>h.elim)).then htc2 (fun k hk h=>HS1.out k hk h)
   have HS2:Hid (∀ k,k < w.heap.size->S2 k->S k):=fun k hk h=>HS1.out k hk (hs2 k (by omega) h)
   have HI2:Hid (Inv S2 ((es ++ enPre kept f ⟨fr,lv,p⟩ i) ++ [EE]) w2):=hinv2
   have hw2:w.heap.size+2<=w2.heap.size:=Nat.le_trans hw1 htc2.size
   obtain ⟨_,s0,s1⟩:=HQ.out w2 bz1 bz2
   have hsb:=HSB2.out w2
   clear hvis hinv2 htc2 hs2 bz1 bz2 q0 q1 q2
   go_wp2_with fail
   refine hsb.mono ?_
   rintro e w3 ⟨rfl,hb3⟩
   obtain ⟨w4,hw4⟩:∃ w4,w4=w3.alloc (.cells #[.int .i64 ((lv:Int)+1),.int .i64 X] 122):=⟨_,rfl⟩
   have hb4:Below w3.heap.size w3 w4:=by rw [hw4]; exact bal
   have hb24:Below w2.heap.size w2 w4:=hb3.trans (hb4.mono hb3.size)
   have r0:w4.cell? ⟨w3.heap.size,0,none⟩=some (.int .i64 ((lv:Int)+1)):=by rw [hw4]; simp [go_sem]
   have r1:w4.cell? ⟨w3.heap.size,1,none⟩=some (.int .i64 X):=by rw [hw4]; simp [go_sem]
   have N4:w3.heap.size < w4.heap.size:=by rw [hw4]; simp
   have hp4:=HPS.out _ _ _ (HVI.out.below _ _ _ _ HI2.out hb24)
   have HW4:Hid (w4=_):=hw4
   have HB24:Hid (Below w2.heap.size w2 w4):=hb24
   have HL4:Hid (∀ wX,Below w4.heap.size w4 wX->wX.cell? ⟨gp,2,none⟩=some (.map (some B))/\wX.cell? ⟨w3.heap.size,0,none⟩=some (.int .i64 ((lv:Int)+1))/\wX.cell? ⟨w3.heap.size,1,none⟩=some (.int .i64 X)/\(Instr.lookup 89 (.map (some B)) (kV ((lv:Int)+1) X) false).run Tryz.prog wX=.ok (.agg #[.int .i64 la,.bool kb]) wX):=fun wX hX=>⟨(hX.cell (p:=⟨gp,2,none⟩) hp4.lt).trans hp4.c2,(hX.cell (p:=⟨w3.heap.size,0,none⟩) N4).trans r0,(hX.cell (p:=⟨w3.heap.size,1,none⟩) N4).trans r1,HLK.out wX (hp4.below hX)⟩
   clear hsb hb3 hb4 hb24 hp4 hw4 r0 r1
   go_wp2_with fail
   rw [<- HW4.out]
   refine wp_region_held_drew (S:=fun wX:World=>wX.cell? ⟨gp,2,none⟩=some (.map (some B))/\wX.cell? ⟨w3.heap.size,0,none⟩=some (.int .i64 ((lv:Int)+1))/\wX.cell? ⟨w3.heap.size,1,none⟩=some (.int .i64 X)/\(Instr.lookup 89 (.map (some B)) (kV ((lv:Int)+1) X) false).run Tryz.prog wX=.ok (.agg #[.int .i64 la,.bool kb]) wX) (by kernel_rfl) (HL4.out _ (Below.refl _ _).drew) (fun hHeld=>?_)
   refine tk 0 ?_
   refine tk 1 ?_
   refine tk 2 ?_
   refine tk 3 ?_
   refine tk 4 ?_
   refine tk 5 ?_
   refine wpAnyH_ready (rs:=[6]) (by kernel_rfl) (by simp) ?_
   refine AllReadyH.cons rfl (fun K hK=>?_) AllReadyH.nil
   go_simp
   refine hK.out _ _ (HL4.out _ (bal.drew)) (fun hHeld2=>?_)
   clear hK K
   refine wpAnyH_ready (rs:=[7]) (by kernel_rfl) (by simp) ?_
   refine AllReadyH.cons rfl (fun K hK=>?_) AllReadyH.nil
   go_simp
   refine hK.out _ _ (HL4.out _ (bal.drew)) (fun hHeld3=>?_)
   clear hK K
   refine wpAnyH_done (by kernel_rfl) ?_ _
   clear hHeld hHeld2 hHeld3
   obtain ⟨w5,hw5⟩:∃ w5,w5=w4.alloc (.cells #[.int .i64 la,.bool kb] 126):=⟨_,rfl⟩
   rw [<- hw5]
   have hb5:Below w4.heap.size w4 w5:=by rw [hw5]; exact bal
   have t0:w5.cell? ⟨w4.heap.size,0,none⟩=some (.int .i64 la):=by rw [hw5]; simp [go_sem]
   have t1:w5.cell? ⟨w4.heap.size,1,none⟩=some (.bool kb):=by rw [hw5]; simp [go_sem]
   obtain ⟨_,r0,r1,_⟩:=HL4.out w5 hb5
   have HB25:Hid (Below w2.heap.size w2 w5.drew):=hidOf <| (HB24.out.trans (hb5.mono HB24.out.size)).drew
   have HI5:Hid (Inv S2 ((es ++ enPre kept f ⟨fr,lv,p⟩ i) ++ [EE]) w5.drew):=HVI.out.below _ _ _ _ HI2.out HB25.out
   have N5:w4.heap.size < w5.heap.size:=by rw [hw5]; simp
   clear hw5 hb5 HL4
   cases kb
   ·have HF0:Hid (¬ 0<=frOf kept ((lv:Int)+1) X):=hidOf <| of_decide_eq_false HKB.out
    have HE1:Hid (es ++ enPre kept f ⟨fr,lv,p⟩ (i+1)=(es ++ enPre kept f ⟨fr,lv,p⟩ i) ++ [EE]):=hidOf <| by rw [HSTEP.out,if_neg HF0.out,List.append_assoc]
    clear HSTEP
    go_wp2_with fail
    go_roundw
    case rel =>
     refine ⟨i+1,by omega,by go_num,S2,by rw [HE1.out]; exact HI5.out,HT2.out.then (Tch.of_below (S:=fun _=>False) HB25.out) (fun k _ h=>h.elim),HS2.out,(HB25.out.block _ (by omega)).trans HZ2.out.1,(HB25.out.block _ (by omega)).trans HZ2.out.2,Nat.le_trans hw2 HB25.out.size,HNS2.out.1,HNS2.out.2⟩
    case measure=>simp [intOf]; omega
   ·have hF0:0<=frOf kept ((lv:Int)+1) X:=of_decide_eq_true HKB.out
    have HE1:Hid (es ++ enPre kept f ⟨fr,lv,p⟩ (i+1)=((es ++ enPre kept f ⟨fr,lv,p⟩ i) ++ [EE]) ++ enV kept f ⟨frOf kept ((lv:Int)+1) X,(lv:Int)+1,X⟩):=hidOf <| by rw [HSTEP.out,if_pos hF0,List.append_assoc,List.append_assoc]; rfl
    have hla:=HLA.out hF0
    have hrec:=HR2.out S2 _ w5.drew (by have:=HLB.out i hlt; rw [List.length_append,List.length_singleton]; omega) hF0 HI5.out
    generalize enV kept f ⟨frOf kept ((lv:Int)+1) X,(lv:Int)+1,X⟩=EL at HE1 hrec
    rw [<- hla] at hrec
    clear HSTEP HR2 hla hF0 HLA HKB HLK
    go_wp2_with fail
    refine hrec.mono ?_
    rintro e w6 ⟨rfl,S6,hinv6,htc6,hs6⟩
    clear hrec
    go_wp2_with fail
    go_roundw
    case rel =>
     have hw5:w.heap.size+2<=w5.drew.heap.size:=Nat.le_trans hw2 HB25.out.size
     refine ⟨i+1,by omega,by go_num,S6,by rw [HE1.out]; exact hinv6,(HT2.out.then (Tch.of_below (S:=fun _=>False) HB25.out) (fun k _ h=>h.elim)).then htc6 (fun k hk h=>HS2.out k hk h),fun k hk h=>HS2.out k hk (hs6 k (by omega) h),(htc6.block _ (by omega) HNS2.out.1).trans ((HB25.out.block _ (by omega)).trans HZ2.out.1),(htc6.block _ (by omega) HNS2.out.2).trans ((HB25.out.block _ (by omega)).trans HZ2.out.2),Nat.le_trans hw5 htc6.size,fun h=>HNS2.out.1 (hs6 _ (by omega) h),fun h=>HNS2.out.2 (hs6 _ (by omega) h)⟩
    case measure=>simp [intOf]; omega
  ·have ei:i=16:=by omega
   subst ei
   go_wp2_with fail
   refine bodyPost_end (v:=.tuple #[]) (by simp [results,Tryz.results128,go_sem]) rfl ?_
   exact ⟨rfl,S1,hinv,htch,hS1⟩
end Go.Proofs.YtnmhkgmmpkjjeacGreat
