import Derived.Test.YtnmhkgmmpkjjeacGreatG42
import Derived.Laws.IdiomStrings
namespace Go.Proofs.YtnmhkgmmpkjjeacGreat
open Go.ChangeShapes Go.WideShapes Go.ChangeAt Go.RowKit
set_option linter.unusedVariables false
set_option linter.unusedSimpArgs false
set_option maxRecDepth 100000
attribute [local go_sem ↓] Go.wp_at_zero Go.wp_at_succ
attribute [local go_sem] bs_size bs_cAt bs_app bs_mk bs_cut bs_list
structure WSub (w:World) (b:Nat) (s:SlE) (ws:List Txt):Prop where
 n:s.n=ws.length
 l:ws.length<=20000
 c:s.n<=s.c
 m:s.c<=maxLen
 r:0 < ws.length->∃ g off,s.a=some ⟨g,off,none⟩/\g ≠ b/\∀ i,i < ws.length->w.cell? ⟨g,off+i,none⟩=some (.string (bs (tAt ws i)))
structure PW (w:World) (b:Nat) (at_:Nat) (s:SlE) (ws:List Txt):Prop where
 pa:w.cell? ⟨b,4,none⟩=some (.int .i64 (at_:Int))
 ps:w.cell? ⟨b,5,none⟩=some s.v
 pf:w.frozen? ⟨b,5,none⟩=false
 pw:WSub w b s ws
theorem refuse_no (b:Nat) (c:Int) (w:World):Calls Tryz.prog 154 #[.pointer (some ⟨b,0,none⟩),.bool false,.int .i64 c] w fun e w'=>e=.returned (.tuple #[])/\w'=w:=by
 go_enter Tryz.func154,Tryz.ntmps154
 go_wp2_with fail
 go_end0
 exact ⟨rfl,rfl⟩
theorem refuse_yes (b:Nat) (c:Int) (at_:Nat) (w:World) (h:w.cell? ⟨b,4,none⟩=some (.int .i64 (at_:Int))):Calls Tryz.prog 154 #[.pointer (some ⟨b,0,none⟩),.bool true,.int .i64 c] w fun e w'=>e=.panicked [{ v:=diagV c (at_:Int),recovered:=false }]/\w'=w:=by
 go_enter Tryz.func154,Tryz.ntmps154
 go_wp2_with fail
 exact ⟨rfl,rfl,rfl⟩
theorem next_no (b at_:Nat) (s:SlE) (w:World) (h:PW w b at_ s []):Calls Tryz.prog 150 #[.pointer (some ⟨b,0,none⟩)] w fun e w'=>e=.panicked [{ v:=diagV 4 (at_:Int),recovered:=false }]/\w'=w:=by
 have t1:=refuse_yes b 4 at_ w h.pa
 have h5:=h.ps
 obtain ⟨a,n,c⟩:=s
 have hn:n=0:=h.pw.n
 subst hn
 clear h
 go_enter Tryz.func150,Tryz.ntmps150
 go_wp2_with fail
 refine t1.mono ?_
 rintro e w1 ⟨rfl,rfl⟩
 exact ⟨rfl,rfl,rfl⟩
theorem PW.tail {w:World} {b at_:Nat} {s:SlE} {x:Txt} {ws:List Txt} (h:PW w b at_ s (x :: ws)):∃ g off c,s=⟨some ⟨g,off,none⟩,ws.length+1,c⟩/\ws.length+1<=20000/\ws.length+1<=c/\c<=maxLen/\w.cell? ⟨b,4,none⟩=some (.int .i64 (at_:Int))/\w.cell? ⟨b,5,none⟩=some (.slice (some ⟨g,off,none⟩) (ws.length+1) c)/\w.frozen? ⟨b,5,none⟩=false/\w.cell? ⟨g,off,none⟩=some (.string (bs x)) /\
  ∀ o:Nat,(0 < ws.length->o=off+1)->PW (w.setCell ⟨b,5,none⟩ (.slice (some ⟨g,o,none⟩) ws.length (c - 1))) b at_ ⟨some ⟨g,o,none⟩,ws.length,c - 1⟩ ws:=by
 have h4:=h.pa
 have h5:=h.ps
 have hf:=h.pf
 have hl:=h.pw.l
 have hcn:=h.pw.c
 have hcm:=h.pw.m
 obtain ⟨g,off,ha,hgb,hcl⟩:=h.pw.r (by simp)
 obtain ⟨a,n,c⟩:=s
 have hn:n=ws.length+1:=h.pw.n
 try dsimp only at ha hcn hcm
 subst ha hn
 simp only [List.length_cons] at hl
 refine ⟨g,off,c,rfl,hl,hcn,hcm,h4,h5,hf,hcl 0 (by simp),fun o ho=>?_⟩
 refine ⟨?_,?_,?_,⟨rfl,by omega,by show ws.length<=c - 1; omega,by show c - 1<=maxLen; omega,fun h0=>⟨g,o,rfl,hgb,fun i hi=>?_⟩⟩⟩
 ·rw [World.cell?_setCell_other _ _ _ _ (by intro e; injection e with _ e; cases e)]; exact h4
 ·exact World.cell?_setCell_same _ _ _ h5
 ·rw [World.frozen?_setCell]; exact hf
 ·rw [World.cell?_setCell_other _ _ _ _ (by intro e; injection e with e; exact hgb e.symm),ho h0]
  have:=hcl (i+1) (by simp; omega)
  rw [show off+(i+1)=off+1+i by omega] at this
  exact this
def TookW (w:World) (b at_:Nat) (ws:List Txt) (w':World):Prop:=∃ s':SlE,w'=w.setCell ⟨b,5,none⟩ s'.v/\PW w' b at_ s' ws
theorem next_yes (b at_:Nat) (s:SlE) (x:Txt) (ws:List Txt) (w:World) (h:PW w b at_ s (x :: ws)):Calls Tryz.prog 150 #[.pointer (some ⟨b,0,none⟩)] w fun e w'=>e=.returned (.string (bs x))/\TookW w b at_ ws w':=by
 have t1:=refuse_no b 4 w
 obtain ⟨g,off,c,rfl,hl,hcn,hcm,h4,h5,hf,hx,hp⟩:=h.tail
 have HP:Hid (∀ o:Nat,(0 < ws.length->o=off+1)->PW (w.setCell ⟨b,5,none⟩ (.slice (some ⟨g,o,none⟩) ws.length (c - 1))) b at_ ⟨some ⟨g,o,none⟩,ws.length,c - 1⟩ ws):=hp
 have hz:((ws.length:Int)+1 == 0)=false:=by simp; omega
 have L1:(0:Int) < (ws.length:Int)+1:=by omega
 have L2:(1:Int)<=(ws.length:Int)+1:=by omega
 clear h hp
 go_enter Tryz.func150,Tryz.ntmps150
 go_wp2_with fail
 refine t1.mono ?_
 rintro e w1 ⟨rfl,ew⟩
 obtain rfl:w=w1:=ew.symm
 clear t1
 by_cases hc1:c - 1=0
 ·have hw0:ws.length=0:=by omega
  go_wp2_with fail
  go_ret
  have:=HP.out off (by omega)
  rw [hw0,hc1] at this
  exact ⟨rfl,⟨some ⟨g,off,none⟩,0,0⟩,rfl,this⟩
 ·go_wp2_with fail
  go_ret
  exact ⟨rfl,_,rfl,HP.out (off+1) (fun _=>rfl)⟩
theorem end_yes (b at_:Nat) (s:SlE) (w:World) (h:PW w b at_ s []):Calls Tryz.prog 170 #[.pointer (some ⟨b,0,none⟩)] w fun e w'=>e=.returned (.tuple #[])/\w'=w:=by
 have t1:=refuse_no b 4 w
 have h5:=h.ps
 obtain ⟨a,n,c⟩:=s
 have hn:n=0:=h.pw.n
 subst hn
 clear h
 go_enter Tryz.func170,Tryz.ntmps170
 go_wp2_with fail
 refine t1.mono ?_
 rintro e w1 ⟨rfl,rfl⟩
 go_wp2_with fail
 go_end0
 exact ⟨rfl,rfl⟩
theorem end_no (b at_:Nat) (s:SlE) (ws:List Txt) (w:World) (h:PW w b at_ s ws) (h0:0 < ws.length):Calls Tryz.prog 170 #[.pointer (some ⟨b,0,none⟩)] w fun e w'=>e=.panicked [{ v:=diagV 4 (at_:Int),recovered:=false }]/\w'=w:=by
 have t1:=refuse_yes b 4 at_ w h.pa
 have h5:=h.ps
 obtain ⟨a,n,c⟩:=s
 have hn:n=ws.length:=h.pw.n
 subst hn
 have hz:decide ((0:Int) < (ws.length:Int))=true:=by simp; omega
 have hz2:(0:Int) < (ws.length:Int):=by omega
 clear h
 go_enter Tryz.func170,Tryz.ntmps170
 go_wp2_with fail
 refine t1.mono ?_
 rintro e w1 ⟨rfl,rfl⟩
 exact ⟨rfl,rfl,rfl⟩
theorem option_none (b at_:Nat) (s:SlE) (x:Txt) (w:World) (h:PW w b at_ s []):Calls Tryz.prog 169 #[.pointer (some ⟨b,0,none⟩),.string (bs x)] w fun e w'=>e=.returned (.bool false)/\w'=w:=by
 have h5:=h.ps
 obtain ⟨a,n,c⟩:=s
 have hn:n=0:=h.pw.n
 subst hn
 clear h
 go_enter Tryz.func169,Tryz.ntmps169
 go_wp2_with fail
 go_ret
 exact ⟨rfl,rfl⟩
theorem option_no (b at_:Nat) (s:SlE) (x y:Txt) (ws:List Txt) (w:World) (h:PW w b at_ s (y :: ws)) (hxy:y ≠ x):Calls Tryz.prog 169 #[.pointer (some ⟨b,0,none⟩),.string (bs x)] w fun e w'=>e=.returned (.bool false)/\w'=w:=by
 obtain ⟨g,off,c,rfl,hl,hcn,hcm,h4,h5,hf,hx,hp⟩:=h.tail
 have HP:Hid (∀ o:Nat,(0 < ws.length->o=off+1)->PW (w.setCell ⟨b,5,none⟩ (.slice (some ⟨g,o,none⟩) ws.length (c - 1))) b at_ ⟨some ⟨g,o,none⟩,ws.length,c - 1⟩ ws):=hp
 have hz:((ws.length:Int)+1 == 0)=false:=by simp; omega
 have L1:(0:Int) < (ws.length:Int)+1:=by omega
 have L2:(1:Int)<=(ws.length:Int)+1:=by omega
 clear h hp
 have hb:(y == x)=false:=by simpa using hxy
 clear HP
 go_enter Tryz.func169,Tryz.ntmps169
 go_wp2_with fail
 go_ret
 exact ⟨rfl,rfl⟩
theorem option_yes (b at_:Nat) (s:SlE) (x:Txt) (ws:List Txt) (w:World) (h:PW w b at_ s (x :: ws)):Calls Tryz.prog 169 #[.pointer (some ⟨b,0,none⟩),.string (bs x)] w fun e w'=>e=.returned (.bool true)/\TookW w b at_ ws w':=by
 obtain ⟨g,off,c,rfl,hl,hcn,hcm,h4,h5,hf,hx,hp⟩:=h.tail
 have HP:Hid (∀ o:Nat,(0 < ws.length->o=off+1)->PW (w.setCell ⟨b,5,none⟩ (.slice (some ⟨g,o,none⟩) ws.length (c - 1))) b at_ ⟨some ⟨g,o,none⟩,ws.length,c - 1⟩ ws):=hp
 have hz:((ws.length:Int)+1 == 0)=false:=by simp; omega
 have L1:(0:Int) < (ws.length:Int)+1:=by omega
 have L2:(1:Int)<=(ws.length:Int)+1:=by omega
 clear h hp
 have hb:(x == x)=true:=by simp
 go_enter Tryz.func169,Tryz.ntmps169
 by_cases hc1:c - 1=0
 ·have hw0:ws.length=0:=by omega
  go_wp2_with fail
  go_ret
  have:=HP.out off (by omega)
  rw [hw0,hc1] at this
  exact ⟨rfl,⟨some ⟨g,off,none⟩,0,0⟩,rfl,this⟩
 ·go_wp2_with fail
  go_ret
  exact ⟨rfl,_,rfl,HP.out (off+1) (fun _=>rfl)⟩
theorem permW_any (x:Txt) (w:World):Calls Tryz.prog 173 #[.string (bs x)] w fun e w'=>e=.returned (.int .i64 (permL x))/\w'=w:=by
 by_cases h0:x=[114]
 ·subst h0
  go_enter Tryz.func173,Tryz.ntmps173
  go_wp2_with fail
  go_ret
  exact ⟨rfl,rfl⟩
 by_cases h1:x=[119]
 ·subst h1
  go_enter Tryz.func173,Tryz.ntmps173
  go_wp2_with fail
  go_ret
  exact ⟨rfl,rfl⟩
 by_cases h2:x=[120]
 ·subst h2
  go_enter Tryz.func173,Tryz.ntmps173
  go_wp2_with fail
  go_ret
  exact ⟨rfl,rfl⟩
 by_cases h3:x=[114,119]
 ·subst h3
  go_enter Tryz.func173,Tryz.ntmps173
  go_wp2_with fail
  go_ret
  exact ⟨rfl,rfl⟩
 by_cases h4:x=[114,120]
 ·subst h4
  go_enter Tryz.func173,Tryz.ntmps173
  go_wp2_with fail
  go_ret
  exact ⟨rfl,rfl⟩
 by_cases h5:x=[119,120]
 ·subst h5
  go_enter Tryz.func173,Tryz.ntmps173
  go_wp2_with fail
  go_ret
  exact ⟨rfl,rfl⟩
 by_cases h6:x=[114,119,120]
 ·subst h6
  go_enter Tryz.func173,Tryz.ntmps173
  go_wp2_with fail
  go_ret
  exact ⟨rfl,rfl⟩
 have HR:Hid (permL x=0):=hidP (by unfold permL; simp [h0,h1,h2,h3,h4,h5,h6])
 have e0:(x == [114])=false:=by simpa using h0
 have e1:(x == [119])=false:=by simpa using h1
 have e2:(x == [120])=false:=by simpa using h2
 have e3:(x == [114,119])=false:=by simpa using h3
 have e4:(x == [114,120])=false:=by simpa using h4
 have e5:(x == [119,120])=false:=by simpa using h5
 have e6:(x == [114,119,120])=false:=by simpa using h6
 clear h0 h1 h2 h3 h4 h5 h6
 go_enter Tryz.func173,Tryz.ntmps173
 go_wp2_with fail
 go_ret
 exact ⟨by rw [HR.out]; rfl,rfl⟩
theorem isName_any (x:Txt) (w:World) (h:0 < x.length) (hl:x.length<=20000):Calls Tryz.prog 180 #[.string (bs x)] w fun e w'=>e=.returned (.bool (nameL x))/\w'=w:=by
 by_cases h0:x=[111,98,106,101,99,116]
 ·subst h0
  go_enter Tryz.func180,Tryz.ntmps180
  go_wp2_with fail
  go_ret
  exact ⟨rfl,rfl⟩
 by_cases h1:x=[114,101,103,105,111,110]
 ·subst h1
  go_enter Tryz.func180,Tryz.ntmps180
  go_wp2_with fail
  go_ret
  exact ⟨rfl,rfl⟩
 by_cases h2:x=[103,117,97,114,100]
 ·subst h2
  go_enter Tryz.func180,Tryz.ntmps180
  go_wp2_with fail
  go_ret
  exact ⟨rfl,rfl⟩
 by_cases h3:x=[97,116]
 ·subst h3
  go_enter Tryz.func180,Tryz.ntmps180
  go_wp2_with fail
  go_ret
  exact ⟨rfl,rfl⟩
 by_cases h4:x=[115,104,97,114,101,100]
 ·subst h4
  go_enter Tryz.func180,Tryz.ntmps180
  go_wp2_with fail
  go_ret
  exact ⟨rfl,rfl⟩
 by_cases h5:x=[104,117,103,101]
 ·subst h5
  go_enter Tryz.func180,Tryz.ntmps180
  go_wp2_with fail
  go_ret
  exact ⟨rfl,rfl⟩
 have hk:isKw x=false:=by unfold isKw; simp [h0,h1,h2,h3,h4,h5]
 have e0:(x == [111,98,106,101,99,116])=false:=by simpa using h0
 have e1:(x == [114,101,103,105,111,110])=false:=by simpa using h1
 have e2:(x == [103,117,97,114,100])=false:=by simpa using h2
 have e3:(x == [97,116])=false:=by simpa using h3
 have e4:(x == [115,104,97,114,101,100])=false:=by simpa using h4
 have e5:(x == [104,117,103,101])=false:=by simpa using h5
 clear h0 h1 h2 h3 h4 h5
 have L0:(0:Int) < (x.length:Int):=by omega
 have t1:=isLetter_any (cAt x 0) w
 by_cases h16:x.length<=16
 ·have L1:(x.length:Int)<=16:=by omega
  have HR:Hid (nameL x=isLow (cAt x 0)):=hidP (by unfold nameL; rw [hk]; simp [h,h16])
  clear hk
  go_enter Tryz.func180,Tryz.ntmps180
  go_wp2_with fail
  refine t1.mono ?_
  rintro e w1 ⟨rfl,rfl⟩
  go_wp2_with fail
  go_ret
  exact ⟨by rw [HR.out]; rfl,rfl⟩
 ·have L1:¬ (x.length:Int)<=16:=by omega
  have HR:Hid (nameL x=false):=hidP (by unfold nameL; rw [hk]; simp [h16])
  clear hk t1
  go_enter Tryz.func180,Tryz.ntmps180
  go_wp2_with fail
  go_ret
  exact ⟨by rw [HR.out]; rfl,rfl⟩
theorem name_none (b at_:Nat) (s:SlE) (w:World) (h:PW w b at_ s []):Calls Tryz.prog 167 #[.pointer (some ⟨b,0,none⟩)] w fun e w'=>e=.panicked [{ v:=diagV 4 (at_:Int),recovered:=false }]/\w'=w:=by
 have t1:=next_no b at_ s w h
 clear h
 go_enter Tryz.func167,Tryz.ntmps167
 go_wp2_with fail
 refine t1.mono ?_
 rintro e w1 ⟨rfl,rfl⟩
 exact ⟨rfl,rfl,rfl⟩
theorem name_yes (b at_:Nat) (s:SlE) (x:Txt) (ws:List Txt) (w:World) (h:PW w b at_ s (x :: ws)) (h0:0 < x.length) (hl:x.length<=20000) (hn:nameL x=true):Calls Tryz.prog 167 #[.pointer (some ⟨b,0,none⟩)] w fun e w'=>e=.returned (.string (bs x))/\TookW w b at_ ws w':=by
 have t1:=next_yes b at_ s x ws w h
 have HN:Hid (∀ wX,Calls Tryz.prog 180 #[.string (bs x)] wX fun e w'=>e=.returned (.bool true)/\w'=wX):=hidP (fun wX=>by rw [<- hn]; exact isName_any x wX h0 hl)
 have HF:Hid (∀ wX,Calls Tryz.prog 154 #[.pointer (some ⟨b,0,none⟩),.bool false,.int .i64 4] wX fun e w'=>e=.returned (.tuple #[])/\w'=wX):=hidP (fun wX=>refuse_no b 4 wX)
 clear h hn
 go_enter Tryz.func167,Tryz.ntmps167
 go_wp2_with fail
 refine t1.mono ?_
 rintro e w1 ⟨rfl,htk⟩
 have HTK:Hid (TookW w b at_ ws w1):=htk
 have t2:=HN.out w1
 have t3:=HF.out w1
 clear t1 htk HN HF
 go_wp2_with fail
 refine t2.mono ?_
 rintro e w2 ⟨rfl,ew⟩
 obtain rfl:w1=w2:=ew.symm
 clear t2
 go_wp2_with fail
 refine t3.mono ?_
 rintro e w3 ⟨rfl,ew⟩
 obtain rfl:w1=w3:=ew.symm
 clear t3
 go_wp2_with fail
 go_ret
 exact ⟨rfl,HTK.out⟩
theorem name_no (b at_:Nat) (s:SlE) (x:Txt) (ws:List Txt) (w:World) (h:PW w b at_ s (x :: ws)) (h0:0 < x.length) (hl:x.length<=20000) (hn:nameL x=false):Calls Tryz.prog 167 #[.pointer (some ⟨b,0,none⟩)] w fun e w'=>e=.panicked [{ v:=diagV 4 (at_:Int),recovered:=false }]/\TookW w b at_ ws w':=by
 have t1:=next_yes b at_ s x ws w h
 have HN:Hid (∀ wX,Calls Tryz.prog 180 #[.string (bs x)] wX fun e w'=>e=.returned (.bool false)/\w'=wX):=hidP (fun wX=>by rw [<- hn]; exact isName_any x wX h0 hl)
 clear h hn
 go_enter Tryz.func167,Tryz.ntmps167
 go_wp2_with fail
 refine t1.mono ?_
 rintro e w1 ⟨rfl,htk⟩
 have HTK:Hid (TookW w b at_ ws w1):=htk
 have t2:=HN.out w1
 have t3:Hid (Calls Tryz.prog 154 #[.pointer (some ⟨b,0,none⟩),.bool true,.int .i64 4] w1 fun e w'=>e=.panicked [{ v:=diagV 4 (at_:Int),recovered:=false }]/\w'=w1):=hidP (by obtain ⟨s',_,hp⟩:=htk; exact refuse_yes b 4 at_ w1 hp.pa)
 clear t1 htk HN
 go_wp2_with fail
 refine t2.mono ?_
 rintro e w2 ⟨rfl,ew⟩
 obtain rfl:w1=w2:=ew.symm
 clear t2
 go_wp2_with fail
 refine t3.out.mono ?_
 rintro e w3 ⟨rfl,ew⟩
 obtain rfl:w1=w3:=ew.symm
 exact ⟨rfl,rfl,HTK.out⟩
theorem bytes_of (x:Txt) (w:World):∃ cap wq,(convert 9 233 (.string (bs x))).run Tryz.prog w=.ok (.slice (some ⟨w.heap.size,0,none⟩) x.length cap) wq/\Below w.heap.size w wq/\∀ i,i < x.length->wq.cell? ⟨w.heap.size,i,none⟩=some (.int .u8 ((cAt x i).toNat:Int)):=by
 have h:=run_bytes_of_string (P:=Tryz.prog) w 9 233 5 (bs x) Tryz.underlying9 Tryz.underlying233 Tryz.underlying5
 rw [bs_size] at h
 refine ⟨_,_,h,(Below.refl _ _).drew.alloc (Nat.le_refl _) _,fun i hi=>?_⟩
 have hb:=bytesRow_at (bs x) (grownCap w x.length 0 5) i (by show i < x.toArray.size; simpa using hi)
 have hc:((bs x).data[i]'(by show i < x.toArray.size; simpa using hi))=cAt x i:=by
  unfold cAt
  rw [List.getD_eq_getElem?_getD,List.getElem?_eq_getElem hi]
  rfl
 rw [hc] at hb
 have hn:∀ (C:Array Value) (f:Nat × Nat),(w.drew.alloc (.cells C 5 f)).cell? ⟨w.heap.size,i,none⟩=C[i]?:=fun C f=>World.cell?_alloc_mark w.drew C _ f i
 rw [hn]
 exact hb
def valTo (x:Txt) (k:Nat):Nat:=valL (x.take k)
theorem valTo_succ {x:Txt} {k:Nat} (h:k < x.length):valTo x (k+1)=valTo x k * 10+((cAt x k).toNat - 48):=by
 unfold valTo valL cAt
 rw [List.take_add_one,List.foldl_append,List.getD_eq_getElem?_getD,List.getElem?_eq_getElem h]
 rfl
theorem valTo_b2 {x:Txt} {k:Nat} (hd:∀ j,j < k->isDig (cAt x j)=true) (h6:k<=6) (hl:k<=x.length):valTo x k < 10 ^ k:=by
 induction k with
 | zero=>unfold valTo valL; simp
 | succ k ih =>
  have ih:=ih (fun j hj=>hd j (by omega)) (by omega) (by omega)
  have h1:=hd k (by omega)
  unfold isDig at h1
  simp at h1
  rw [valTo_succ (by omega),Nat.pow_succ]
  omega
theorem pow6 {k:Nat} (h:k < 6):(10:Nat) ^ k<=100000:=by
 rcases (show k=0\/k=1\/k=2\/k=3\/k=4\/k=5 by omega) with rfl | rfl | rfl | rfl | rfl | rfl <;> decide
set_option maxHeartbeats 600000 in
theorem numberOf_any (x:Txt) (w:World) (hl:x.length<=20000):Calls Tryz.prog 181 #[.string (bs x)] w fun e w'=>(numOk x=true->e=.returned (.tuple #[.int .i64 (valL x:Int),.bool true]))/\(numOk x=false->e=.returned (.tuple #[.int .i64 0,.bool false]))/\Below w.heap.size w w':=by
 by_cases h0:x.length=0
 ·obtain rfl:=List.length_eq_zero_iff.1 h0
  have HNO:Hid (numOk []=false):=hidP rfl
  clear h0
  go_enter Tryz.func181,Tryz.ntmps181
  go_wp2_with fail
  exact bodyPost_ret (v:=.tuple #[.int .i64 0,.bool false]) (by simp [results,Tryz.results181,go_sem]) rfl ⟨fun h=>(by rw [HNO.out] at h; cases h),fun _=>rfl,Below.refl _ _⟩
 ·have L0:¬ (x.length:Int) < 1:=by omega
  by_cases h6:x.length<=6
  ·have L6:¬ (6:Int) < (x.length:Int):=by omega
   have L7:(0:Int) < (x.length:Int):=by omega
   by_cases hz:(cAt x 0).toNat=48/\1 < x.length
   ·have HNO:Hid (numOk x=false):=hidP (by unfold numOk; simp [hz.1,hz.2])
    have L1:(1:Int) < (x.length:Int):=by omega
    have hb:(((cAt x 0).toNat:Int) == 48)=true:=by simp; omega
    clear hz
    refine calls_o 43 Tryz.func181 rfl (by rfl) (by simp) ?_
    intro tm hsz hla
    have s0:=hla 0 (by simp)
    clear hla
    simp only [List.getElem_toArray,List.getElem_cons_zero,List.getElem_cons_succ] at s0
    go_upto_if 24 with fail
    refine wp_cond_true (by go_simp) ?_
    go_wp2_with fail
    exact bodyPost_ret (v:=.tuple #[.int .i64 0,.bool false]) (by simp [results,Tryz.results181,go_sem,hsz]) rfl ⟨fun h=>(by rw [HNO.out] at h; cases h),fun _=>rfl,Below.refl _ _⟩
   ·have HZ:Hid (¬ ((cAt x 0).toNat=48/\1 < x.length)):=hz
    obtain ⟨cap,wq,hcv,hbq,hcl⟩:=bytes_of x w
    have HCL:Hid (∀ i,i < x.length->wq.cell? ⟨w.heap.size,i,none⟩=some (.int .u8 ((cAt x i).toNat:Int))):=hcl
    have HBQ:Hid (Below w.heap.size w wq):=hbq
    clear hcl hbq
    by_cases h1:1 < x.length
    ·have L1:(1:Int) < (x.length:Int):=by omega
     have hb:(((cAt x 0).toNat:Int) == 48)=false:=by simp; omega
     clear hz
     refine calls_o 43 Tryz.func181 rfl (by rfl) (by simp) ?_
     intro tm hsz hla
     have s0:=hla 0 (by simp)
     clear hla
     simp only [List.getElem_toArray,List.getElem_cons_zero,List.getElem_cons_succ] at s0
     go_upto_if 24 with fail
     refine wp_cond_false (by go_simp) ?_
     go_wp2_with fail
     refine wp_loop_o 43 (fun j tm wz=>∃ k:Nat,j=x.length - k/\k<=x.length/\Fs tm [(4,.int .i64 (valTo x k:Int)),(26,.slice (some ⟨w.heap.size,0,none⟩) x.length cap),(27,.int .i64 (x.length:Int)),(28,.int .i64 (k:Int))]/\wz=wq/\∀ j,j < k->isDig (cAt x j)=true) x.length (by simp [hsz]) ⟨0,by omega,by omega,by simp only [Fs]; and_intros <;> simp [hsz,s0,valTo,valL],rfl,fun j hj=>absurd hj (Nat.not_lt_zero _)⟩ ?_
     clear s0 hsz hcv
     clear tm
     intro j tm wz J K hsz hI hJ hK
     obtain ⟨k,hj,hk,hs,hwz,hdg⟩:=hI
     obtain rfl:wq=wz:=hwz.symm
     simp only [Fs] at hs
     obtain ⟨s4,s26,s27,s28,-⟩:=hs
     subst hj
     have HDG:Hid (∀ j,j < k->isDig (cAt x j)=true):=hdg
     clear hdg
     by_cases hlt:k < x.length
     ·have K0:(0:Int)<=(k:Int):=by omega
      have K1:(k:Int) < (x.length:Int):=by omega
      have hck:=HCL.out k hlt
      have t1:=isDigit_any (cAt x k) wq
      go_upto_if 29 with fail
      refine wp_cond_true (by go_simp <;> omega) ?_
      go_wp2_with fail
      refine t1.mono ?_
      rintro e w2 ⟨rfl,ew⟩
      obtain rfl:wq=w2:=ew.symm
      clear t1
      by_cases hd:isDig (cAt x k)=true
      ·have HS:Hid (valTo x (k+1)=valTo x k * 10+((cAt x k).toNat - 48)):=hidP (valTo_succ hlt)
       have HDN:Hid (∀ j,j < k+1->isDig (cAt x j)=true):=hidP (fun j hj=>by
        rcases Nat.lt_or_ge j k with h | h
        ·exact HDG.out j h
        ·obtain rfl:j=k:=by omega
         exact hd)
       have bv:valTo x k < 1000000:=Nat.lt_of_lt_of_le (valTo_b2 HDG.out (by omega) hk) (Nat.le_trans (pow6 (k:=k) (by omega)) (by decide))
       have bd:48<=(cAt x k).toNat/\(cAt x k).toNat<=57:=by unfold isDig at hd; simp at hd; omega
       have W1:IntKind.u8.wrap (((cAt x k).toNat:Int) - 48)=((cAt x k).toNat:Int) - 48:=by rw [IntKind.wrap_u8]; omega
       have W2:IntKind.i64.wrap ((valTo x k:Int) * 10)=(valTo x k:Int) * 10:=by rw [IntKind.wrap_i64]; omega
       have W3:IntKind.i64.wrap (((cAt x k).toNat:Int) - 48)=((cAt x k).toNat:Int) - 48:=by rw [IntKind.wrap_i64]; omega
       have W4:IntKind.i64.wrap ((valTo x k:Int) * 10+(((cAt x k).toNat:Int) - 48))=(valTo x k:Int) * 10+(((cAt x k).toNat:Int) - 48):=by rw [IntKind.wrap_i64]; omega
       have W5:IntKind.i64.wrap ((k:Int)+1)=(k:Int)+1:=by rw [IntKind.wrap_i64]; omega
       rw [hd]
       go_upto_if 34 with fail
       refine wp_cond_false (by go_simp) ?_
       go_wp2_with fail
       refine Met.intro (hJ (x.length - (k+1)) _ _ (by simp [hsz]) ⟨k+1,rfl,by omega,by rw [HS.out,show ((valTo x k * 10+((cAt x k).toNat - 48):Nat):Int)=(valTo x k:Int) * 10+(((cAt x k).toNat:Int) - 48) by omega,show ((k+1:Nat):Int)=(k:Int)+1 by omega]; simp only [Fs]; and_intros <;> simp [hsz,s4,s26,s27,s28],rfl,HDN.out⟩ (by omega))
      ·have hdf:isDig (cAt x k)=false:=by simpa using hd
       have HNO:Hid (numOk x=false):=hidP (by
        have:x.all isDig=false:=by
         cases hh:x.all isDig
         ·rfl
         ·exact absurd (all_cAt.1 hh k hlt) hd
        unfold numOk digL; rw [this]; rfl)
       rw [hdf]
       go_upto_if 34 with fail
       refine wp_cond_true (by go_simp) ?_
       go_wp2_with fail
       exact bodyPost_ret (v:=.tuple #[.int .i64 0,.bool false]) (by simp [results,Tryz.results181,go_sem,hsz]) rfl ⟨fun h=>(by rw [HNO.out] at h; cases h),fun _=>rfl,HBQ.out⟩
     ·obtain rfl:k=x.length:=by omega
      have K2:¬ (x.length:Int) < (x.length:Int):=by omega
      have HYES:Hid (numOk x=true):=hidP (by
       unfold numOk digL
       rw [all_cAt.2 HDG.out]
       have:=HZ.out
       simp
       omega)
      have HV:Hid (valTo x x.length=valL x):=hidP (by unfold valTo; rw [List.take_length])
      go_upto_if 29 with fail
      refine wp_cond_false (by go_simp <;> omega) ?_
      go_wp2_with fail
      exact bodyPost_ret (v:=.tuple #[.int .i64 (valTo x x.length:Int),.bool true]) (by simp [results,Tryz.results181,go_sem,hsz,s4]) rfl ⟨fun _=>(by rw [HV.out]),fun h=>(by rw [HYES.out] at h; cases h),HBQ.out⟩
    ·have L1:¬ (1:Int) < (x.length:Int):=by omega
     clear hz
     refine calls_o 43 Tryz.func181 rfl (by rfl) (by simp) ?_
     intro tm hsz hla
     have s0:=hla 0 (by simp)
     clear hla
     simp only [List.getElem_toArray,List.getElem_cons_zero,List.getElem_cons_succ] at s0
     go_upto_if 24 with fail
     refine wp_cond_false (by go_simp) ?_
     go_wp2_with fail
     refine wp_loop_o 43 (fun j tm wz=>∃ k:Nat,j=x.length - k/\k<=x.length/\Fs tm [(4,.int .i64 (valTo x k:Int)),(26,.slice (some ⟨w.heap.size,0,none⟩) x.length cap),(27,.int .i64 (x.length:Int)),(28,.int .i64 (k:Int))]/\wz=wq/\∀ j,j < k->isDig (cAt x j)=true) x.length (by simp [hsz]) ⟨0,by omega,by omega,by simp only [Fs]; and_intros <;> simp [hsz,s0,valTo,valL],rfl,fun j hj=>absurd hj (Nat.not_lt_zero _)⟩ ?_
     clear s0 hsz hcv
     clear tm
     intro j tm wz J K hsz hI hJ hK
     obtain ⟨k,hj,hk,hs,hwz,hdg⟩:=hI
     obtain rfl:wq=wz:=hwz.symm
     simp only [Fs] at hs
     obtain ⟨s4,s26,s27,s28,-⟩:=hs
     subst hj
     have HDG:Hid (∀ j,j < k->isDig (cAt x j)=true):=hdg
     clear hdg
     by_cases hlt:k < x.length
     ·have K0:(0:Int)<=(k:Int):=by omega
      have K1:(k:Int) < (x.length:Int):=by omega
      have hck:=HCL.out k hlt
      have t1:=isDigit_any (cAt x k) wq
      go_upto_if 29 with fail
      refine wp_cond_true (by go_simp <;> omega) ?_
      go_wp2_with fail
      refine t1.mono ?_
      rintro e w2 ⟨rfl,ew⟩
      obtain rfl:wq=w2:=ew.symm
      clear t1
      by_cases hd:isDig (cAt x k)=true
      ·have HS:Hid (valTo x (k+1)=valTo x k * 10+((cAt x k).toNat - 48)):=hidP (valTo_succ hlt)
       have HDN:Hid (∀ j,j < k+1->isDig (cAt x j)=true):=hidP (fun j hj=>by
        rcases Nat.lt_or_ge j k with h | h
        ·exact HDG.out j h
        ·obtain rfl:j=k:=by omega
         exact hd)
       have bv:valTo x k < 1000000:=Nat.lt_of_lt_of_le (valTo_b2 HDG.out (by omega) hk) (Nat.le_trans (pow6 (k:=k) (by omega)) (by decide))
       have bd:48<=(cAt x k).toNat/\(cAt x k).toNat<=57:=by unfold isDig at hd; simp at hd; omega
       have W1:IntKind.u8.wrap (((cAt x k).toNat:Int) - 48)=((cAt x k).toNat:Int) - 48:=by rw [IntKind.wrap_u8]; omega
       have W2:IntKind.i64.wrap ((valTo x k:Int) * 10)=(valTo x k:Int) * 10:=by rw [IntKind.wrap_i64]; omega
       have W3:IntKind.i64.wrap (((cAt x k).toNat:Int) - 48)=((cAt x k).toNat:Int) - 48:=by rw [IntKind.wrap_i64]; omega
       have W4:IntKind.i64.wrap ((valTo x k:Int) * 10+(((cAt x k).toNat:Int) - 48))=(valTo x k:Int) * 10+(((cAt x k).toNat:Int) - 48):=by rw [IntKind.wrap_i64]; omega
       have W5:IntKind.i64.wrap ((k:Int)+1)=(k:Int)+1:=by rw [IntKind.wrap_i64]; omega
       rw [hd]
       go_upto_if 34 with fail
       refine wp_cond_false (by go_simp) ?_
       go_wp2_with fail
       refine Met.intro (hJ (x.length - (k+1)) _ _ (by simp [hsz]) ⟨k+1,rfl,by omega,by rw [HS.out,show ((valTo x k * 10+((cAt x k).toNat - 48):Nat):Int)=(valTo x k:Int) * 10+(((cAt x k).toNat:Int) - 48) by omega,show ((k+1:Nat):Int)=(k:Int)+1 by omega]; simp only [Fs]; and_intros <;> simp [hsz,s4,s26,s27,s28],rfl,HDN.out⟩ (by omega))
      ·have hdf:isDig (cAt x k)=false:=by simpa using hd
       have HNO:Hid (numOk x=false):=hidP (by
        have:x.all isDig=false:=by
         cases hh:x.all isDig
         ·rfl
         ·exact absurd (all_cAt.1 hh k hlt) hd
        unfold numOk digL; rw [this]; rfl)
       rw [hdf]
       go_upto_if 34 with fail
       refine wp_cond_true (by go_simp) ?_
       go_wp2_with fail
       exact bodyPost_ret (v:=.tuple #[.int .i64 0,.bool false]) (by simp [results,Tryz.results181,go_sem,hsz]) rfl ⟨fun h=>(by rw [HNO.out] at h; cases h),fun _=>rfl,HBQ.out⟩
     ·obtain rfl:k=x.length:=by omega
      have K2:¬ (x.length:Int) < (x.length:Int):=by omega
      have HYES:Hid (numOk x=true):=hidP (by
       unfold numOk digL
       rw [all_cAt.2 HDG.out]
       have:=HZ.out
       simp
       omega)
      have HV:Hid (valTo x x.length=valL x):=hidP (by unfold valTo; rw [List.take_length])
      go_upto_if 29 with fail
      refine wp_cond_false (by go_simp <;> omega) ?_
      go_wp2_with fail
      exact bodyPost_ret (v:=.tuple #[.int .i64 (valTo x x.length:Int),.bool true]) (by simp [results,Tryz.results181,go_sem,hsz,s4]) rfl ⟨fun _=>(by rw [HV.out]),fun h=>(by rw [HYES.out] at h; cases h),HBQ.out⟩
  ·have L6:(6:Int) < (x.length:Int):=by omega
   have HNO:Hid (numOk x=false):=hidP (by unfold numOk; simp [h6])
   clear h6 h0
   go_enter Tryz.func181,Tryz.ntmps181
   go_wp2_with fail
   exact bodyPost_ret (v:=.tuple #[.int .i64 0,.bool false]) (by simp [results,Tryz.results181,go_sem]) rfl ⟨fun h=>(by rw [HNO.out] at h; cases h),fun _=>rfl,Below.refl _ _⟩
end Go.Proofs.YtnmhkgmmpkjjeacGreat
