import Derived.Test.YtnmhkgmmpkjjeaaG45
import Derived.Test.YtnmhkgmmpkjjeaaG46
import Derived.Test.YtnmhkgmmpkjjeaaG53
namespace Go.Proofs.Ytnmhkgmmpkjjeaa
open Go.ChangeShapes Go.WideShapes Go.ChangeAt Go.RowKit
set_option linter.unusedVariables false
set_option linter.unusedSimpArgs false
set_option maxRecDepth 100000
attribute [local go_sem ↓] Go.wp_at_zero Go.wp_at_succ
structure Bx (w:World) (B b:Nat) (s:SV) (M:Mach):Prop where
 c:C4 w B (.slice s.a1 M.mem.length s.c1) (.slice s.a2 M.pend.length s.c2) (.slice s.a3 M.tlb.length s.c3) (.slice s.a4 M.wc.length s.c4)
 row:MRow w b (s.mv M) M
 lt:B < w.heap.size
structure Ox (w:World) (B:Nat) (k a b wd:Int):Prop where
 c:C4 w B (.int .i64 k) (.int .i64 a) (.int .i64 b) (.int .u64 wd)
 lt:B < w.heap.size
theorem Bx.below {w w':World} {B b:Nat} {s:SV} {M:Mach} (h:Bx w B b s M) (hb:Below w.heap.size w w'):Bx w' B b s M:=⟨h.c.touch (Touch.of_below (S:=fun _=>False) hb) h.lt (fun h=>h),h.row.below hb,Nat.lt_of_lt_of_le h.lt hb.size⟩
theorem Ox.below {w w':World} {B:Nat} {k a b wd:Int} (h:Ox w B k a b wd) (hb:Below w.heap.size w w'):Ox w' B k a b wd:=⟨h.c.touch (Touch.of_below (S:=fun _=>False) hb) h.lt (fun h=>h),Nat.lt_of_lt_of_le h.lt hb.size⟩
theorem Bx.new {w:World} {b:Nat} {s:SV} {M:Mach} (h:MRow w b (s.mv M) M):Bx (w.alloc (.cells #[.slice s.a1 M.mem.length s.c1,.slice s.a2 M.pend.length s.c2,.slice s.a3 M.tlb.length s.c3,.slice s.a4 M.wc.length s.c4] 38)) w.heap.size b s M :=
 ⟨⟨by simp [go_sem],by simp [go_sem],by simp [go_sem],by simp [go_sem]⟩,h.below bal,by simp⟩
theorem Ox.new {w:World} {k a b wd:Int}:Ox (w.alloc (.cells #[.int .i64 k,.int .i64 a,.int .i64 b,.int .u64 wd] 65)) w.heap.size k a b wd :=
 ⟨⟨by simp [go_sem],by simp [go_sem],by simp [go_sem],by simp [go_sem]⟩,by simp⟩
theorem ba_big (a:Option Addr) (l cap:Nat) (hl:1048576 < l) (hm:l<=9223372036854775807) (w:World) :
  Calls Try.prog 6 #[.slice a l cap] w fun e w'=>e=.returned (.bool true)/\Below w.heap.size w w':=by
 have h1:(1048576:Int) < (l:Int):=by omega
 go_enter Try.func6,Try.ntmps6
 go_wp2_with fail
 exact bodyPost_ret (v:=.bool true) (by simp [results,Try.results6,go_sem]) rfl ⟨rfl,Below.refl _ _⟩
set_option maxHeartbeats 16000000 in
theorem ba_walk (a:Option Addr) (cap:Nat) (cs:List Int) (w:World) (hc:Byt cs) (hs:BAt w a cs) :
  Calls Try.prog 6 #[.slice a cs.length cap] w fun e w'=>e=.returned (.bool true)/\Below w.heap.size w w':=by
 have hlen:=hc.1
 have HDR:Hid (∀ wX,Below w.heap.size w wX->Calls Try.prog 28 #[.slice a cs.length cap] wX fun e w'=>∃ (s:SV) (o:OpE),OpOk o/\e=.returned (.tuple #[.agg #[.slice s.a1 (drawSt cs).mem.length s.c1,.slice s.a2 (drawSt cs).pend.length s.c2,.slice s.a3 (drawSt cs).tlb.length s.c3,.slice s.a4 (drawSt cs).wc.length s.c4],.agg #[.int .i64 o.kind,.int .i64 o.a,.int .i64 o.b,.int .u64 o.word]])/\MRow w' wX.heap.size (s.mv (drawSt cs)) (drawSt cs)/\Below wX.heap.size wX w'):=hidP fun wX hX=>drawStep_any a cap cs wX hc (hs.below hX)
 obtain ⟨hk,hsm⟩:=drawSt_ok cs hc
 generalize drawSt cs=M at *
 have HK:Hid (MOk M):=hk
 have HSM:Hid M.Small:=hsm
 have L0:¬ (1048576:Int) < (cs.length:Int):=by omega
 have t1:=HDR.out w (Below.refl _ _)
 clear hc hs hk hsm
 go_enter Try.func6,Try.ntmps6
 go_wp2_with fail
 refine t1.mono ?_
 rintro e w1 ⟨s1,o,hoo,rfl,hr1,hb1⟩
 have HOO:Hid (OpOk o):=hoo
 have HR1:Hid (MRow w1 w.heap.size (s1.mv M) M):=hr1
 have HB1:Hid (Below w.heap.size w w1):=hb1
 obtain ⟨oK,oA,oB,oW⟩:=o
 dsimp only
 clear t1 hoo hr1 hb1
 go_upto_region 4 with fail
 obtain ⟨w2,hw2⟩:∃ w2,w2=(w1.alloc (.cells #[.slice s1.a1 M.mem.length s1.c1,.slice s1.a2 M.pend.length s1.c2,.slice s1.a3 M.tlb.length s1.c3,.slice s1.a4 M.wc.length s1.c4] 38)).alloc (.cells #[.int .i64 oK,.int .i64 oA,.int .i64 oB,.int .u64 oW] 65):=⟨_,rfl⟩
 have hb2:Below w1.heap.size w1 w2:=by rw [hw2]; exact bal.alloc (by simp) _
 have HM:Hid (Bx w2 w1.heap.size w.heap.size s1 M):=hidP (by rw [hw2]; exact (Bx.new HR1.out).below bal)
 have HO:Hid (Ox w2 (w1.heap.size+1) oK oA oB oW):=hidP (by
  rw [hw2]
  have h:=Ox.new (w:=w1.alloc (.cells #[.slice s1.a1 M.mem.length s1.c1,.slice s1.a2 M.pend.length s1.c2,.slice s1.a3 M.tlb.length s1.c3,.slice s1.a4 M.wc.length s1.c4] 38)) (k:=oK) (a:=oA) (b:=oB) (wd:=oW)
  rw [show (w1.alloc (.cells #[.slice s1.a1 M.mem.length s1.c1,.slice s1.a2 M.pend.length s1.c2,.slice s1.a3 M.tlb.length s1.c3,.slice s1.a4 M.wc.length s1.c4] 38)).heap.size=w1.heap.size+1 by simp] at h
  exact h)
 have HB2:Hid (Below w.heap.size w w2):=hidP (HB1.out.trans (hb2.mono HB1.out.size))
 have t2:=HDR.out w2 HB2.out
 rw [<- hw2]
 clear hw2 hb2 HR1 HB1
 go_wp2_with fail
 refine t2.mono ?_
 rintro e w3 ⟨s2,o2,_,rfl,hr3,hb3⟩
 have HR3:Hid (MRow w3 w2.heap.size (s2.mv M) M):=hr3
 have HB3:Hid (Below w.heap.size w w3):=hidP (HB2.out.trans (hb3.mono HB2.out.size))
 have HM':Hid _:=hidP (HM.out.below hb3)
 clear HM
 have HM:=HM'
 clear HM'
 have HO':Hid _:=hidP (HO.out.below hb3)
 clear HO
 have HO:=HO'
 clear HO'
 clear t2 hr3 hb3
 go_upto_region 5 with fail
 obtain ⟨w4,hw4⟩:∃ w4,w4=(w3.alloc (.cells #[.slice s2.a1 M.mem.length s2.c1,.slice s2.a2 M.pend.length s2.c2,.slice s2.a3 M.tlb.length s2.c3,.slice s2.a4 M.wc.length s2.c4] 38)).alloc (.cells #[.int .i64 o2.kind,.int .i64 o2.a,.int .i64 o2.b,.int .u64 o2.word] 65):=⟨_,rfl⟩
 have hb4:Below w3.heap.size w3 w4:=by rw [hw4]; exact bal.alloc (by simp) _
 have HM2:Hid (Bx w4 w3.heap.size w2.heap.size s2 M):=hidP (by rw [hw4]; exact (Bx.new HR3.out).below bal)
 have HB4:Hid (Below w.heap.size w w4):=hidP (HB3.out.trans (hb4.mono HB3.out.size))
 have HM':Hid _:=hidP (HM.out.below hb4)
 clear HM
 have HM:=HM'
 clear HM'
 have HO':Hid _:=hidP (HO.out.below hb4)
 clear HO
 have HO:=HO'
 clear HO'
 rw [<- hw4]
 clear hw4 hb4 HR3 HB3
 obtain ⟨M1,C,eR⟩:∃ N c,stepR M ⟨oK,oA,oB,oW⟩=(N,c):=⟨_,_,rfl⟩
 have t3:=specStep_any s2 M w2.heap.size ⟨oK,oA,oB,oW⟩ w4 HK.out HSM.out HOO.out HM2.out.row
 have HTI:=hidP (fun (wX:World) (h:MRow wX w.heap.size (s1.mv M) M)=>implStep_any s1 M w.heap.size ⟨oK,oA,oB,oW⟩ wX HK.out HSM.out HOO.out h)
 obtain ⟨sc9,scn,sc0⟩:=step_code ⟨oK,oA,oB,oW⟩ HK.out
 have HEO:Hid (stepR M ⟨oK,oA,oB,oW⟩=(M1,C)):=eR
 rw [eR] at t3 HTI sc9 scn sc0
 dsimp only at t3 HTI sc9 scn sc0
 have HC9:Hid (C=9->M1=zM):=sc9
 have HCN:Hid (C ≠ 9->C ≠ 0->M1=M):=scn
 have HC0:Hid (C=0->VM M/\(M1,C)=opM M ⟨oK,oA,oB,oW⟩):=sc0
 clear eR sc9 scn sc0
 obtain ⟨k0,k1,k2,k3⟩:=HM2.out.c
 obtain ⟨p0,p1,p2,p3⟩:=HO.out.c
 go_wp2_with fail
 refine t3.mono ?_
 rintro e w5 ⟨s3,rfl,hr5,hb5⟩
 have HR5:Hid (MRow w5 w4.heap.size (s3.mv M1) M1):=hr5
 have HB5:Hid (Below w.heap.size w w5):=hidP (HB4.out.trans (hb5.mono HB4.out.size))
 have HM':Hid _:=hidP (HM.out.below hb5)
 clear HM
 have HM:=HM'
 clear HM'
 have HO':Hid _:=hidP (HO.out.below hb5)
 clear HO
 have HO:=HO'
 clear HO'
 have HM2':Hid _:=hidP (HM2.out.below hb5)
 clear HM2
 have HM2:=HM2'
 clear HM2'
 clear t3 hr5 hb5 k0 k1 k2 k3 p0 p1 p2 p3
 go_upto_region 6 with fail
 obtain ⟨w6,hw6⟩:∃ w6,w6=w5.alloc (.cells #[.slice s3.a1 M1.mem.length s3.c1,.slice s3.a2 M1.pend.length s3.c2,.slice s3.a3 M1.tlb.length s3.c3,.slice s3.a4 M1.wc.length s3.c4] 38):=⟨_,rfl⟩
 have hb6:Below w5.heap.size w5 w6:=by rw [hw6]; exact bal
 have HS1:Hid (Bx w6 w5.heap.size w4.heap.size s3 M1):=hidP (by rw [hw6]; exact Bx.new HR5.out)
 have HB6:Hid (Below w.heap.size w w6):=hidP (HB5.out.trans (hb6.mono HB5.out.size))
 have HM':Hid _:=hidP (HM.out.below hb6)
 clear HM
 have HM:=HM'
 clear HM'
 have HO':Hid _:=hidP (HO.out.below hb6)
 clear HO
 have HO:=HO'
 clear HO'
 have HM2':Hid _:=hidP (HM2.out.below hb6)
 clear HM2
 have HM2:=HM2'
 clear HM2'
 rw [<- hw6]
 clear hw6 hb6 HR5 HB5
 have t4:=HTI.out w6 HM.out.row
 obtain ⟨k0,k1,k2,k3⟩:=HM.out.c
 obtain ⟨p0,p1,p2,p3⟩:=HO.out.c
 go_wp2_with fail
 refine t4.mono ?_
 rintro e w7 ⟨s4,rfl,hr7,_,hb7⟩
 have HR7:Hid (MRow w7 w6.heap.size (s4.mv M1) M1):=hr7
 have HB7:Hid (Below w.heap.size w w7):=hidP (HB6.out.trans (hb7.mono HB6.out.size))
 have HO':Hid _:=hidP (HO.out.below hb7)
 clear HO
 have HO:=HO'
 clear HO'
 have HM2':Hid _:=hidP (HM2.out.below hb7)
 clear HM2
 have HM2:=HM2'
 clear HM2'
 have HS1':Hid _:=hidP (HS1.out.below hb7)
 clear HS1
 have HS1:=HS1'
 clear HS1'
 clear t4 hr7 hb7 k0 k1 k2 k3 p0 p1 p2 p3 HM HTI
 go_upto_region 7 with fail
 obtain ⟨w8,hw8⟩:∃ w8,w8=w7.alloc (.cells #[.slice s4.a1 M1.mem.length s4.c1,.slice s4.a2 M1.pend.length s4.c2,.slice s4.a3 M1.tlb.length s4.c3,.slice s4.a4 M1.wc.length s4.c4] 38):=⟨_,rfl⟩
 have hb8:Below w7.heap.size w7 w8:=by rw [hw8]; exact bal
 have HR:Hid (Bx w8 w7.heap.size w6.heap.size s4 M1):=hidP (by rw [hw8]; exact Bx.new HR7.out)
 have HB8:Hid (Below w.heap.size w w8):=hidP (HB7.out.trans (hb8.mono HB7.out.size))
 have HO':Hid _:=hidP (HO.out.below hb8)
 clear HO
 have HO:=HO'
 clear HO'
 have HM2':Hid _:=hidP (HM2.out.below hb8)
 clear HM2
 have HM2:=HM2'
 clear HM2'
 have HS1':Hid _:=hidP (HS1.out.below hb8)
 clear HS1
 have HS1:=HS1'
 clear HS1'
 rw [<- hw8]
 clear hw8 hb8 HR7 HB7
 obtain ⟨k0,k1,k2,k3⟩:=HR.out.c
 by_cases h9:C=9
 ·have h9b:(C == 9)=true:=by simpa using h9
  have hz:M1.mem.length=0:=by rw [HC9.out h9]; rfl
  have HB8':=HB8
  clear h9
  go_wp2_with fail
  exact bodyPost_ret (v:=.bool true) (by simp [results,Try.results6,go_sem]) rfl ⟨rfl,HB8'.out⟩
 ·have h9b:(C == 9)=false:=by simpa using h9
  by_cases h0:C=0
  ·subst h0
   clear h9 k0 k1 k2 k3
   obtain ⟨hvM,eOp⟩:=HC0.out rfl
   have eO1:(opM M ⟨oK,oA,oB,oW⟩).1=M1:=by rw [<- eOp]
   have eO2:(opM M ⟨oK,oA,oB,oW⟩).2=0:=by rw [<- eOp]
   have hv1:VM M1:=by rw [<- eO1]; exact opM_vm hvM _ HOO.out
   have HV1:Hid (VM M1):=hv1
   have dn:=dsb_doom M1
   have ds:=dsb_step hv1
   have dvm:=dsb_vm hv1
   have d2:=dsb_step dvm
   rw [dsb_twice] at d2
   have HTL:Hid (oK=3->(0<=oA/\oA < 4096/\1<=oB/\oA+oB<=4096)/\(∀ e ∈ (dsbM M1).tlb,meets e.page e.size oA oB=false)/\∀ e ∈ (dsbM M1).wc,meets e.page (16 * cov e.level) oA oB=false):=hidP (fun h3=>by
    have h:=dsb_tlbi eO2 h3
    rw [eO1] at h
    exact h)
   obtain ⟨zs,ts,us,eD⟩:∃ zs ts us,dsbM M1=⟨zs,[],ts,us⟩:=⟨_,_,_,rfl⟩
   rw [eD] at dn ds dvm d2 HTL
   dsimp only at dn HTL
   have HDN:Hid ((∀ e ∈ ts,e.doom=false)/\∀ e ∈ us,e.doom=false):=dn
   have HDV:Hid (VM ⟨zs,[],ts,us⟩):=dvm
   have HTS:Hid (∀ (b:Nat) wX,MRow wX b (s3.mv M1) M1->Calls Try.prog 29 #[.agg #[.slice s3.a1 M1.mem.length s3.c1,.slice s3.a2 M1.pend.length s3.c2,.slice s3.a3 M1.tlb.length s3.c3,.slice s3.a4 M1.wc.length s3.c4],.agg #[.int .i64 2,.int .i64 0,.int .i64 0,.int .u64 0]] wX fun e w'=>∃ s:SV,e=.returned (.tuple #[.agg #[.slice s.a1 zs.length s.c1,.slice s.a2 0 s.c2,.slice s.a3 ts.length s.c3,.slice s.a4 us.length s.c4],.int .i64 0])/\MRow w' wX.heap.size (s.mv ⟨zs,[],ts,us⟩) ⟨zs,[],ts,us⟩/\Below wX.heap.size wX w'):=hidP (fun b wX h=>by
    have h':=specStep_any s3 M1 b ⟨2,0,0,0⟩ wX hv1.mok hv1.small (opok0 _ _ _ (by omega) (by omega) (by omega)) h
    rw [ds] at h'
    exact h')
   have HTP:Hid (∀ (b:Nat) wX,MRow wX b (s4.mv M1) M1->Calls Try.prog 30 #[.agg #[.slice s4.a1 M1.mem.length s4.c1,.slice s4.a2 M1.pend.length s4.c2,.slice s4.a3 M1.tlb.length s4.c3,.slice s4.a4 M1.wc.length s4.c4],.agg #[.int .i64 2,.int .i64 0,.int .i64 0,.int .u64 0]] wX fun e w'=>∃ s:SV,e=.returned (.tuple #[.agg #[.slice s.a1 zs.length s.c1,.slice s.a2 0 s.c2,.slice s.a3 ts.length s.c3,.slice s.a4 us.length s.c4],.int .i64 0])/\MRow w' wX.heap.size (s.mv ⟨zs,[],ts,us⟩) ⟨zs,[],ts,us⟩/\Below wX.heap.size wX w'):=hidP (fun b wX h=>by
    have h':=implStep_any s4 M1 b ⟨2,0,0,0⟩ wX hv1.mok hv1.small (opok0 _ _ _ (by omega) (by omega) (by omega)) h
    rw [ds] at h'
    exact h'.mono (fun e w' ⟨s,h1,h2,_,h3⟩=>⟨s,h1,h2,h3⟩))
   have HTQ:Hid (∀ (s:SV) (b:Nat) wX,MRow wX b (s.mv ⟨zs,[],ts,us⟩) ⟨zs,[],ts,us⟩->Calls Try.prog 30 #[.agg #[.slice s.a1 zs.length s.c1,.slice s.a2 0 s.c2,.slice s.a3 ts.length s.c3,.slice s.a4 us.length s.c4],.agg #[.int .i64 2,.int .i64 0,.int .i64 0,.int .u64 0]] wX fun e w'=>∃ s:SV,e=.returned (.tuple #[.agg #[.slice s.a1 zs.length s.c1,.slice s.a2 0 s.c2,.slice s.a3 ts.length s.c3,.slice s.a4 us.length s.c4],.int .i64 0])/\MRow w' wX.heap.size (s.mv ⟨zs,[],ts,us⟩) ⟨zs,[],ts,us⟩/\Below wX.heap.size wX w'):=hidP (fun s b wX h=>by
    have h':=implStep_any s ⟨zs,[],ts,us⟩ b ⟨2,0,0,0⟩ wX HDV.out.mok HDV.out.small (opok0 _ _ _ (by omega) (by omega) (by omega)) h
    rw [d2] at h'
    exact h'.mono (fun e w' ⟨s,h1,h2,_,h3⟩=>⟨s,h1,h2,h3⟩))
   have HSQ:Hid (∀ (s r:SV) (b b':Nat) wX,MRow wX b (s.mv ⟨zs,[],ts,us⟩) ⟨zs,[],ts,us⟩->MRow wX b' (r.mv ⟨zs,[],ts,us⟩) ⟨zs,[],ts,us⟩->Calls Try.prog 31 #[.agg #[.slice s.a1 zs.length s.c1,.slice s.a2 0 s.c2,.slice s.a3 ts.length s.c3,.slice s.a4 us.length s.c4],.agg #[.slice r.a1 zs.length r.c1,.slice r.a2 0 r.c2,.slice r.a3 ts.length r.c3,.slice r.a4 us.length r.c4]] wX fun e w'=>e=.returned (.bool true)/\Below wX.heap.size wX w'):=hidP (fun s r b b' wX h1 h2=>sameMach_yes s r ⟨zs,[],ts,us⟩ b b' wX HDV.out.small h1 h2)
   have q1:=HDV.out.t
   have q2:=HDV.out.c
   dsimp only at q1 q2
   clear hvM eOp eO1 eO2 hv1 dn ds dvm d2 eD
   go_upto_region 14 with fail
   obtain ⟨w9,hw9⟩:∃ w9,w9=w8.alloc (.cells #[.int .i64 2,.int .i64 0,.int .i64 0,.int .u64 0] 65):=⟨_,rfl⟩
   have hb9:Below w8.heap.size w8 w9:=by rw [hw9]; exact bal
   have HP:Hid (Ox w9 w8.heap.size 2 0 0 0):=hidP (by rw [hw9]; exact Ox.new)
   have HB9:Hid (Below w.heap.size w w9):=hidP (HB8.out.trans (hb9.mono HB8.out.size))
   have HO':Hid _:=hidP (HO.out.below hb9)
   clear HO
   have HO:=HO'
   clear HO'
   have HS1':Hid _:=hidP (HS1.out.below hb9)
   clear HS1
   have HS1:=HS1'
   clear HS1'
   have HR':Hid _:=hidP (HR.out.below hb9)
   clear HR
   have HR:=HR'
   clear HR'
   rw [<- hw9]
   clear hw9 hb9 HB8 HM2
   have t5:=HTS.out _ w9 HS1.out.row
   obtain ⟨k0,k1,k2,k3⟩:=HS1.out.c
   obtain ⟨p0,p1,p2,p3⟩:=HP.out.c
   go_wp2_with fail
   refine t5.mono ?_
   rintro e wA ⟨s5,rfl,hrA,hbA⟩
   have HRA:Hid (MRow wA w9.heap.size (s5.mv ⟨zs,[],ts,us⟩) ⟨zs,[],ts,us⟩):=hrA
   have HBA:Hid (Below w.heap.size w wA):=hidP (HB9.out.trans (hbA.mono HB9.out.size))
   have HO':Hid _:=hidP (HO.out.below hbA)
   clear HO
   have HO:=HO'
   clear HO'
   have HR':Hid _:=hidP (HR.out.below hbA)
   clear HR
   have HR:=HR'
   clear HR'
   have HP':Hid _:=hidP (HP.out.below hbA)
   clear HP
   have HP:=HP'
   clear HP'
   clear t5 hrA hbA k0 k1 k2 k3 p0 p1 p2 p3 HS1
   go_upto_region 15 with fail
   obtain ⟨wB,hwB⟩:∃ wB,wB=wA.alloc (.cells #[.slice s5.a1 zs.length s5.c1,.slice s5.a2 0 s5.c2,.slice s5.a3 ts.length s5.c3,.slice s5.a4 us.length s5.c4] 38):=⟨_,rfl⟩
   have hbB:Below wA.heap.size wA wB:=by rw [hwB]; exact bal
   have HX:Hid (Bx wB wA.heap.size w9.heap.size s5 ⟨zs,[],ts,us⟩):=hidP (by rw [hwB]; exact Bx.new HRA.out)
   have HBB:Hid (Below w.heap.size w wB):=hidP (HBA.out.trans (hbB.mono HBA.out.size))
   have HO':Hid _:=hidP (HO.out.below hbB)
   clear HO
   have HO:=HO'
   clear HO'
   have HR':Hid _:=hidP (HR.out.below hbB)
   clear HR
   have HR:=HR'
   clear HR'
   have HP':Hid _:=hidP (HP.out.below hbB)
   clear HP
   have HP:=HP'
   clear HP'
   rw [<- hwB]
   clear hwB hbB HRA HBA
   have t6:=HTP.out _ wB HR.out.row
   obtain ⟨k0,k1,k2,k3⟩:=HR.out.c
   obtain ⟨p0,p1,p2,p3⟩:=HP.out.c
   go_wp2_with fail
   refine t6.mono ?_
   rintro e wC ⟨s6,rfl,hrC,hbC⟩
   have HRC:Hid (MRow wC wB.heap.size (s6.mv ⟨zs,[],ts,us⟩) ⟨zs,[],ts,us⟩):=hrC
   have HBC:Hid (Below w.heap.size w wC):=hidP (HBB.out.trans (hbC.mono HBB.out.size))
   have HO':Hid _:=hidP (HO.out.below hbC)
   clear HO
   have HO:=HO'
   clear HO'
   have HX':Hid _:=hidP (HX.out.below hbC)
   clear HX
   have HX:=HX'
   clear HX'
   have HP':Hid _:=hidP (HP.out.below hbC)
   clear HP
   have HP:=HP'
   clear HP'
   clear t6 hrC hbC k0 k1 k2 k3 p0 p1 p2 p3 HR
   go_upto_region 16 with fail
   obtain ⟨wD,hwD⟩:∃ wD,wD=wC.alloc (.cells #[.slice s6.a1 zs.length s6.c1,.slice s6.a2 0 s6.c2,.slice s6.a3 ts.length s6.c3,.slice s6.a4 us.length s6.c4] 38):=⟨_,rfl⟩
   have hbD:Below wC.heap.size wC wD:=by rw [hwD]; exact bal
   have HY:Hid (Bx wD wC.heap.size wB.heap.size s6 ⟨zs,[],ts,us⟩):=hidP (by rw [hwD]; exact Bx.new HRC.out)
   have HBD:Hid (Below w.heap.size w wD):=hidP (HBC.out.trans (hbD.mono HBC.out.size))
   have HO':Hid _:=hidP (HO.out.below hbD)
   clear HO
   have HO:=HO'
   clear HO'
   have HX':Hid _:=hidP (HX.out.below hbD)
   clear HX
   have HX:=HX'
   clear HX'
   have HP':Hid _:=hidP (HP.out.below hbD)
   clear HP
   have HP:=HP'
   clear HP'
   rw [<- hwD]
   clear hwD hbD HRC HBC
   have t7:=HSQ.out s6 s5 _ _ wD HY.out.row HX.out.row
   obtain ⟨k0,k1,k2,k3⟩:=HY.out.c
   obtain ⟨p0,p1,p2,p3⟩:=HX.out.c
   dsimp only [List.length_nil] at k1 p1
   go_wp2_with fail
   refine t7.mono ?_
   rintro e wE ⟨rfl,hbE⟩
   have HBE:Hid (Below w.heap.size w wE):=hidP (HBD.out.trans (hbE.mono HBD.out.size))
   have HO':Hid _:=hidP (HO.out.below hbE)
   clear HO
   have HO:=HO'
   clear HO'
   have HX':Hid _:=hidP (HX.out.below hbE)
   clear HX
   have HX:=HX'
   clear HX'
   have HP':Hid _:=hidP (HP.out.below hbE)
   clear HP
   have HP:=HP'
   clear HP'
   have HY':Hid _:=hidP (HY.out.below hbE)
   clear HY
   have HY:=HY'
   clear HY'
   clear t7 hbE k0 k1 k2 k3 p0 p1 p2 p3
   obtain ⟨k0,k1,k2,k3⟩:=HY.out.c
   dsimp only [List.length_nil] at k1
   go_wp2_with fail
   have HSE:Hid (∀ wX,Below wE.heap.size wE wX->Bx wX wC.heap.size wB.heap.size s6 ⟨zs,[],ts,us⟩/\Ox wX (w1.heap.size+1) oK oA oB oW):=hidP (fun wX hX=>⟨HY.out.below hX,HO.out.below hX⟩)
   clear k0 k1 k2 k3
   go_loopw [16] (fun iv wr=>∃ i:Nat,i<=ts.length/\iv=.int .i64 (i:Int)/\Below wE.heap.size wE wr) (fun iv _=>ts.length - (intOf iv).toNat)
   case atStart=>exact ⟨0,by omega,rfl,Below.refl _ _⟩
   case round =>
    obtain ⟨i,hi,rfl,hbr⟩:=hrel
    obtain ⟨hY,hO⟩:=HSE.out wr hbr
    obtain ⟨k0,k1,k2,k3⟩:=hY.c
    obtain ⟨p0,p1,p2,p3⟩:=hO.c
    dsimp only [List.length_nil] at k0 k1 k2 k3
    have LY:=hY.lt
    have LO:=hO.lt
    have HBR:Hid (Below wE.heap.size wE wr):=hbr
    by_cases hl:i < ts.length
    ·have I0:(0:Int)<=(i:Int):=by omega
     have I1:(i:Int) < (ts.length:Int):=by omega
     obtain ⟨E0,hE⟩:∃ E0,eAt eTlb ts i=E0:=⟨_,rfl⟩
     obtain ⟨P,S,O,Rr,D⟩:=E0
     have hin:(⟨P,S,O,Rr,D⟩:TlbE) ∈ ts:=hE ▸ eAt_in eTlb hl
     have hD:D=false:=HDN.out.1 _ hin
     subst hD
     have hok:=HDV.out.tlb _ hin
     simp only [tlbOkB,pageOk,Bool.and_eq_true,Bool.or_eq_true,decide_eq_true_eq] at hok
     have bP:0<=P/\P < 4096:=by omega
     have bS:0<=S/\S<=16:=by omega
     have hrow:ERow eTlb wr wB.heap.size (.slice s6.a3 ts.length s6.c3) ts:=hY.row.t
     obtain ⟨g,hg1,hg2⟩:=tlbS_cells hrow
     obtain ⟨hae,hgl⟩:=hg1 (by omega)
     obtain ⟨d0,d1,d2,d3,d4⟩:=hg2 i P S O Rr false hl hE wr rfl
     rw [hae] at k2
     have W2:IntKind.i64.wrap (P+S)=P+S:=by rw [IntKind.wrap_i64]; omega
     have HNB:Hid (Below wE.heap.size wE (wr.alloc (.cells #[.int .i64 P,.int .i64 S,.int .i64 O,.int .i64 Rr,.bool false] 72))):=hidP (hbr.trans (bal.mono hbr.size))
     by_cases h3:oK=3
     ·have h3b:(oK == 3)=true:=by simpa using h3
      obtain ⟨⟨a0,a1,a2,a3⟩,m1,_⟩:=HTL.out h3
      have hme:=m1 _ hin
      unfold meets at hme
      dsimp only at hme
      have W1:IntKind.i64.wrap (oA+oB)=oA+oB:=by rw [IntKind.wrap_i64]; omega
      by_cases hx:P < oA+oB
      ·have hxb:decide (P < oA+oB)=true:=by simpa using hx
       have hyb:decide (oA < P+S)=false:=by rw [hxb] at hme; simpa using hme
       have hy:¬ oA < P+S:=by simpa using hyb
       clear hY hO hbr hE hin hok hrow hg1 hg2 hae hme m1 h3
       go_wp2_with fail
       go_roundw
       case rel=>exact ⟨i+1,by omega,by go_num,HNB.out⟩
       case measure=>first | (simp [intOf]; done) | (simp [intOf]; omega)
      ·have hxb:decide (P < oA+oB)=false:=by simpa using hx
       clear hY hO hbr hE hin hok hrow hg1 hg2 hae hme m1 h3
       go_wp2_with fail
       go_roundw
       case rel=>exact ⟨i+1,by omega,by go_num,HNB.out⟩
       case measure=>first | (simp [intOf]; done) | (simp [intOf]; omega)
     ·have h3b:(oK == 3)=false:=by simpa using h3
      clear hY hO hbr hE hin hok hrow hg1 hg2 hae h3
      go_wp2_with fail
      go_roundw
      case rel=>exact ⟨i+1,by omega,by go_num,HNB.out⟩
      case measure=>first | (simp [intOf]; done) | (simp [intOf]; omega)
    ·obtain rfl:i=ts.length:=by omega
     have I1:¬ (ts.length:Int) < (ts.length:Int):=by omega
     clear hY hO hbr hl
     go_wp2_with fail
     clear k0 k1 k2 k3 p0 p1 p2 p3
     go_loopw [18] (fun iv wr=>∃ i:Nat,i<=us.length/\iv=.int .i64 (i:Int)/\Below wE.heap.size wE wr) (fun iv _=>us.length - (intOf iv).toNat)
     case atStart=>exact ⟨0,by omega,rfl,HBR.out⟩
     case round =>
      obtain ⟨i,hi,rfl,hbr⟩:=hrel
      obtain ⟨hY,hO⟩:=HSE.out wr hbr
      obtain ⟨k0,k1,k2,k3⟩:=hY.c
      obtain ⟨p0,p1,p2,p3⟩:=hO.c
      dsimp only [List.length_nil] at k0 k1 k2 k3
      have LY:=hY.lt
      have LO:=hO.lt
      by_cases hl:i < us.length
      ·have I0:(0:Int)<=(i:Int):=by omega
       have I1:(i:Int) < (us.length:Int):=by omega
       obtain ⟨E0,hE⟩:∃ E0,eAt eWc us i=E0:=⟨_,rfl⟩
       obtain ⟨L,P,O,D⟩:=E0
       have hin:(⟨L,P,O,D⟩:WcE) ∈ us:=hE ▸ eAt_in eWc hl
       have hD:D=false:=HDN.out.2 _ hin
       subst hD
       have hok:=HDV.out.wc _ hin
       simp only [wcOkB,pageOk,Bool.and_eq_true,Bool.or_eq_true,decide_eq_true_eq] at hok
       have bP:0<=P/\P < 4096:=by omega
       have bL:L=2\/L=3:=by omega
       have hrow:ERow eWc wr wB.heap.size (.slice s6.a4 us.length s6.c4) us:=hY.row.c
       obtain ⟨g,hg1,hg2⟩:=wcS_cells hrow
       obtain ⟨hae,hgl⟩:=hg1 (by omega)
       obtain ⟨d0,d1,d2,d3⟩:=hg2 i L P O false hl hE wr rfl
       rw [hae] at k3
       have HNB:Hid (Below wE.heap.size wE (wr.alloc (.cells #[.int .i64 L,.int .i64 P,.int .i64 O,.bool false] 74))):=hidP (hbr.trans (bal.mono hbr.size))
       have HTL2:Hid (oK=3->(0<=oA/\oA < 4096/\1<=oB/\oA+oB<=4096)/\meets P (16 * cov L) oA oB=false):=hidP (fun h3=>⟨(HTL.out h3).1,(HTL.out h3).2.2 _ hin⟩)
       clear hY hO hbr hE hin hok hrow hg1 hg2 hae
       rcases bL with rfl | rfl
       ·have hLb:((2:Int) == 2)=true:=by decide
        have W2:IntKind.i64.wrap (P+256)=P+256:=by rw [IntKind.wrap_i64]; omega
        by_cases h3:oK=3
        ·have h3b:(oK == 3)=true:=by simpa using h3
         obtain ⟨⟨a0,a1,a2,a3⟩,hme⟩:=HTL2.out h3
         rw [show 16 * cov (2:Int)=256 by unfold cov; rfl] at hme
         unfold meets at hme
         have W1:IntKind.i64.wrap (oA+oB)=oA+oB:=by rw [IntKind.wrap_i64]; omega
         by_cases hx:P < oA+oB
         ·have hxb:decide (P < oA+oB)=true:=by simpa using hx
          have hyb:decide (oA < P+256)=false:=by rw [hxb] at hme; simpa using hme
          have hy:¬ oA < P+256:=by simpa using hyb
          clear hme h3
          go_wp2_with fail
          go_roundw
          case rel=>exact ⟨i+1,by omega,by go_num,HNB.out⟩
          case measure=>first | (simp [intOf]; done) | (simp [intOf]; omega)
         ·have hxb:decide (P < oA+oB)=false:=by simpa using hx
          clear hme h3
          go_wp2_with fail
          go_roundw
          case rel=>exact ⟨i+1,by omega,by go_num,HNB.out⟩
          case measure=>first | (simp [intOf]; done) | (simp [intOf]; omega)
        ·have h3b:(oK == 3)=false:=by simpa using h3
         clear h3
         go_wp2_with fail
         go_roundw
         case rel=>exact ⟨i+1,by omega,by go_num,HNB.out⟩
         case measure=>first | (simp [intOf]; done) | (simp [intOf]; omega)
       ·have hLb:((3:Int) == 2)=false:=by decide
        have W2:IntKind.i64.wrap (P+16)=P+16:=by rw [IntKind.wrap_i64]; omega
        by_cases h3:oK=3
        ·have h3b:(oK == 3)=true:=by simpa using h3
         obtain ⟨⟨a0,a1,a2,a3⟩,hme⟩:=HTL2.out h3
         rw [show 16 * cov (3:Int)=16 by unfold cov; rfl] at hme
         unfold meets at hme
         have W1:IntKind.i64.wrap (oA+oB)=oA+oB:=by rw [IntKind.wrap_i64]; omega
         by_cases hx:P < oA+oB
         ·have hxb:decide (P < oA+oB)=true:=by simpa using hx
          have hyb:decide (oA < P+16)=false:=by rw [hxb] at hme; simpa using hme
          have hy:¬ oA < P+16:=by simpa using hyb
          clear hme h3
          go_wp2_with fail
          go_roundw
          case rel=>exact ⟨i+1,by omega,by go_num,HNB.out⟩
          case measure=>first | (simp [intOf]; done) | (simp [intOf]; omega)
         ·have hxb:decide (P < oA+oB)=false:=by simpa using hx
          clear hme h3
          go_wp2_with fail
          go_roundw
          case rel=>exact ⟨i+1,by omega,by go_num,HNB.out⟩
          case measure=>first | (simp [intOf]; done) | (simp [intOf]; omega)
        ·have h3b:(oK == 3)=false:=by simpa using h3
         clear h3
         go_wp2_with fail
         go_roundw
         case rel=>exact ⟨i+1,by omega,by go_num,HNB.out⟩
         case measure=>first | (simp [intOf]; done) | (simp [intOf]; omega)
      ·obtain rfl:i=us.length:=by omega
       have I1:¬ (us.length:Int) < (us.length:Int):=by omega
       have t8:=HTQ.out s6 _ wr hY.row
       have hP:=HP.out.below hbr
       have hX:=HX.out.below hbr
       obtain ⟨x0,x1,x2,x3⟩:=hP.c
       have LP:=hP.lt
       have HX9:Hid (Bx wr wA.heap.size w9.heap.size s5 ⟨zs,[],ts,us⟩):=hX
       have HBR9:Hid (Below w.heap.size w wr):=hidP (HBE.out.trans (hbr.mono HBE.out.size))
       clear hY hO hbr hl hP hX p0 p1 p2 p3
       go_wp2_with fail
       refine t8.mono ?_
       rintro e wG ⟨s7,rfl,hrG,hbG⟩
       have HRG:Hid (MRow wG wr.heap.size (s7.mv ⟨zs,[],ts,us⟩) ⟨zs,[],ts,us⟩):=hrG
       have HXG:Hid (Bx wG wA.heap.size w9.heap.size s5 ⟨zs,[],ts,us⟩):=hidP (HX9.out.below hbG)
       have HBG:Hid (Below w.heap.size w wG):=hidP (HBR9.out.trans (hbG.mono HBR9.out.size))
       clear t8 hrG hbG x0 x1 x2 x3 k0 k1 k2 k3
       go_upto_region 34 with fail
       obtain ⟨wH,hwH⟩:∃ wH,wH=wG.alloc (.cells #[.slice s7.a1 zs.length s7.c1,.slice s7.a2 0 s7.c2,.slice s7.a3 ts.length s7.c3,.slice s7.a4 us.length s7.c4] 38):=⟨_,rfl⟩
       have hbH:Below wG.heap.size wG wH:=by rw [hwH]; exact bal
       have HZ:Hid (Bx wH wG.heap.size wr.heap.size s7 ⟨zs,[],ts,us⟩):=hidP (by rw [hwH]; exact Bx.new HRG.out)
       have HBH:Hid (Below w.heap.size w wH):=hidP (HBG.out.trans (hbH.mono HBG.out.size))
       have HXH:Hid (Bx wH wA.heap.size w9.heap.size s5 ⟨zs,[],ts,us⟩):=hidP (HXG.out.below hbH)
       have t9:=HSQ.out s7 s5 _ _ wH HZ.out.row HXH.out.row
       obtain ⟨k0,k1,k2,k3⟩:=HZ.out.c
       obtain ⟨p0,p1,p2,p3⟩:=HXH.out.c
       dsimp only [List.length_nil] at k0 k1 k2 k3 p0 p1 p2 p3
       rw [<- hwH]
       clear hwH hbH
       go_wp2_with fail
       refine t9.mono ?_
       rintro e wI ⟨rfl,hbI⟩
       have HBI:Hid (Below w.heap.size w wI):=hidP (HBH.out.trans (hbI.mono HBH.out.size))
       clear t9 hbI
       go_wp2_with fail
       exact bodyPost_ret (v:=.bool true) (by simp [results,Try.results6,go_sem]) rfl ⟨rfl,HBI.out⟩
  ·have h0b:(C == 0)=false:=by simpa using h0
   have h0c:(C != 0)=true:=by simpa using h0
   obtain rfl:M1=M:=HCN.out h9 h0
   have t5:=sameMach_yes s4 s2 M1 w6.heap.size w2.heap.size w8 HSM.out HR.out.row HM2.out.row
   obtain ⟨p0,p1,p2,p3⟩:=HM2.out.c
   clear h9 h0
   go_wp2_with fail
   refine t5.mono ?_
   rintro e w9 ⟨rfl,hb9⟩
   have HB9:Hid (Below w.heap.size w w9):=hidP (HB8.out.trans (hb9.mono HB8.out.size))
   clear t5 hb9
   go_wp2_with fail
   exact bodyPost_ret (v:=.bool true) (by simp [results,Try.results6,go_sem]) rfl ⟨rfl,HB9.out⟩
end Go.Proofs.Ytnmhkgmmpkjjeaa
