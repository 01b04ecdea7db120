/- Texts laid together. -/
import Derived.Test.YtmibajbpimcfnaaGreatDoorGE
set_option linter.unusedVariables false
set_option linter.unusedSimpArgs false
set_option maxRecDepth 4000
set_option maxHeartbeats 4000000
/- Package fp2: sums, products and what is made of them. -/
namespace Go.Proofs.YtmibajbpimcfnaaGreatDoor.fpn
open Go.RowKit Pl
theorem fp2Add {G:World→Prop} (K:FpK G) (x y:F2) (w:World) (hg:G w):Calls Tryz.prog 98 #[PV x,PV y] w (Ret (PV (x+y)) w):=by
 obtain ⟨n1,o1⟩:=nm (x.c0+y.c0)
 obtain ⟨n2,o2⟩:=nm (x.c1+y.c1)
 have fin:Ending.returned (PV ⟨n1,n2⟩)=Ending.returned (PV (x+y)):=by subst_vars;exact rfl
 have hp0:=Heap.start w
 go_enter Tryz.func98,Tryz.ntmps98
 refine sgs [.alloc (PC x),.alloc (PC y),.alloc (PC 0)] [0,1,2] [0,0,0] (fun L=>[PV x,PV y,L.p 0,L.p 1,L.p 2]++U 11) (fun L=>[(L.b 0,PC x),(L.b 1,PC y),(L.b 2,PC 0)]) hp0 ⟨
  oB,oB,oZ rP,
  trivial⟩ (fun L0 w1 hp1=>?_)
 refine sdrD [.det (L0.p 0),.det (FV x.c0),.det (L0.p 1),.det (FV y.c0),.det (FV n1),.det (pt (L0.b 0) 6),.det (FV x.c1),.det (pt (L0.b 1) 6),.det (FV y.c1),.det (FV n2),.det (PV ⟨n1,n2⟩),.store (.base 2) 0 (PC ⟨n1,n2⟩) (PC ⟨n1,n2⟩)] (nn 12) [0,1,0,4,15,0,32,0,128,511,1023,2047] (fun L d=>D d 0 4++([L0.p 2]++D d 5 11)) (fun L=>[(L0.b 0,PC x),(L0.b 1,PC y),(L0.b 2,PC ⟨n1,n2⟩)]) hp1 ⟨
  oI aP,oL 0 0 rF,oI aP,oL 1 0 rF,oC K.stay hg (nF o1 (K.add x.c0 y.c0)),oI aP,oL 0 6 rF,oI aP,oL 1 6 rF,oC K.stay hg (nF o2 (K.add x.c1 y.c1)),oD (buildP n1 n2),
  oT rP,
  trivial⟩ (fun L1 _ w2 hp2=>?_)
 refine wp_ret ?_
 refine bodyPost_ret (v:=PV ⟨n1,n2⟩) ?_ rfl ?_
 ·exact rc rP rfl (by kernel_rfl) (hp2.bound 2 rfl).2
 ·exact ⟨fin,hp2.bel⟩
theorem fp2Sub {G:World→Prop} (K:FpK G) (x y:F2) (w:World) (hg:G w):Calls Tryz.prog 158 #[PV x,PV y] w (Ret (PV (x-y)) w):=by
 obtain ⟨n1,o1⟩:=nm (x.c0-y.c0)
 obtain ⟨n2,o2⟩:=nm (x.c1-y.c1)
 have fin:Ending.returned (PV ⟨n1,n2⟩)=Ending.returned (PV (x-y)):=by subst_vars;exact rfl
 have hp0:=Heap.start w
 go_enter Tryz.func158,Tryz.ntmps158
 refine sgs [.alloc (PC x),.alloc (PC y),.alloc (PC 0)] [0,1,2] [0,0,0] (fun L=>[PV x,PV y,L.p 0,L.p 1,L.p 2]++U 11) (fun L=>[(L.b 0,PC x),(L.b 1,PC y),(L.b 2,PC 0)]) hp0 ⟨
  oB,oB,oZ rP,
  trivial⟩ (fun L0 w1 hp1=>?_)
 refine sdrD [.det (L0.p 0),.det (FV x.c0),.det (L0.p 1),.det (FV y.c0),.det (FV n1),.det (pt (L0.b 0) 6),.det (FV x.c1),.det (pt (L0.b 1) 6),.det (FV y.c1),.det (FV n2),.det (PV ⟨n1,n2⟩),.store (.base 2) 0 (PC ⟨n1,n2⟩) (PC ⟨n1,n2⟩)] (nn 12) [0,1,0,4,15,0,32,0,128,511,1023,2047] (fun L d=>D d 0 4++([L0.p 2]++D d 5 11)) (fun L=>[(L0.b 0,PC x),(L0.b 1,PC y),(L0.b 2,PC ⟨n1,n2⟩)]) hp1 ⟨
  oI aP,oL 0 0 rF,oI aP,oL 1 0 rF,oC K.stay hg (nF o1 (K.sub x.c0 y.c0)),oI aP,oL 0 6 rF,oI aP,oL 1 6 rF,oC K.stay hg (nF o2 (K.sub x.c1 y.c1)),oD (buildP n1 n2),
  oT rP,
  trivial⟩ (fun L1 _ w2 hp2=>?_)
 refine wp_ret ?_
 refine bodyPost_ret (v:=PV ⟨n1,n2⟩) ?_ rfl ?_
 ·exact rc rP rfl (by kernel_rfl) (hp2.bound 2 rfl).2
 ·exact ⟨fin,hp2.bel⟩
theorem fp2Neg {G:World→Prop} (K:FpK G) (x:F2) (w:World) (hg:G w):Calls Tryz.prog 100 #[PV x] w (Ret (PV (-x)) w):=by
 obtain ⟨n1,o1⟩:=nm (-x.c0)
 obtain ⟨n2,o2⟩:=nm (-x.c1)
 have fin:Ending.returned (PV ⟨n1,n2⟩)=Ending.returned (PV (-x)):=by subst_vars;exact rfl
 have hp0:=Heap.start w
 go_enter Tryz.func100,Tryz.ntmps100
 refine sgs [.alloc (PC x),.alloc (PC 0)] [0,1] [0,0] (fun L=>[PV x,L.p 0,L.p 1]++U 7) (fun L=>[(L.b 0,PC x),(L.b 1,PC 0)]) hp0 ⟨
  oB,oZ rP,
  trivial⟩ (fun L0 w1 hp1=>?_)
 refine sdrD [.det (L0.p 0),.det (FV x.c0),.det (FV n1),.det (pt (L0.b 0) 6),.det (FV x.c1),.det (FV n2),.det (PV ⟨n1,n2⟩),.store (.base 1) 0 (PC ⟨n1,n2⟩) (PC ⟨n1,n2⟩)] (nn 8) [0,1,3,0,8,31,63,127] (fun L d=>D d 0 2++([L0.p 1]++D d 3 7)) (fun L=>[(L0.b 0,PC x),(L0.b 1,PC ⟨n1,n2⟩)]) hp1 ⟨
  oI aP,oL 0 0 rF,oC K.stay hg (nF o1 (K.neg x.c0)),oI aP,oL 0 6 rF,oC K.stay hg (nF o2 (K.neg x.c1)),oD (buildP n1 n2),oT rP,
  trivial⟩ (fun L1 _ w2 hp2=>?_)
 refine wp_ret ?_
 refine bodyPost_ret (v:=PV ⟨n1,n2⟩) ?_ rfl ?_
 ·exact rc rP rfl (by kernel_rfl) (hp2.bound 1 rfl).2
 ·exact ⟨fin,hp2.bel⟩
theorem fp2Mul {G:World→Prop} (K:FpK G) (x y:F2) (w:World) (hg:G w):Calls Tryz.prog 96 #[PV x,PV y] w (Ret (PV (x*y)) w):=by
 obtain ⟨n1,o1⟩:=nm (x.c0*y.c0)
 obtain ⟨n2,o2⟩:=nm (x.c1*y.c1)
 obtain ⟨n3,o3⟩:=nm (x.c0+x.c1)
 obtain ⟨n4,o4⟩:=nm (y.c0+y.c1)
 obtain ⟨n5,o5⟩:=nm (n3*n4)
 obtain ⟨n6,o6⟩:=nm (n1-n2)
 obtain ⟨n7,o7⟩:=nm (n5-n1)
 obtain ⟨n8,o8⟩:=nm (n7-n2)
 have fin:Ending.returned (PV ⟨n6,n8⟩)=Ending.returned (PV (x*y)):=by subst_vars;exact congrArg (fun z=>Ending.returned (PV z)) (F2.ext' (by simp) (by simp;grind))
 have hp0:=Heap.start w
 go_enter Tryz.func96,Tryz.ntmps96
 refine sgs [.alloc (PC x),.alloc (PC y),.alloc (PC 0)] [0,1,2] [0,0,0] (fun L=>[PV x,PV y,L.p 0,L.p 1,L.p 2]++U 33) (fun L=>[(L.b 0,PC x),(L.b 1,PC y),(L.b 2,PC 0)]) hp0 ⟨
  oB,oB,oZ rP,
  trivial⟩ (fun L0 w1 hp1=>?_)
 refine sdrD [.det (L0.p 0),.det (FV x.c0),.det (L0.p 1),.det (FV y.c0),.det (FV n1),.det (pt (L0.b 0) 6),.det (FV x.c1),.det (pt (L0.b 1) 6),.det (FV y.c1),.det (FV n2),.alloc (FC 0),.alloc (FC 0),.store (.new 10) 0 (FC n1) (FC n1),.store (.new 11) 0 (FC n2) (FC n2)] (nn 14) [0,1,0,4,15,0,32,0,128,511,0,0,4095,8191] (fun L d=>D d 0 2++([L0.p 0,L0.p 1,L0.p 2,L.p 10,L.p 11]++D d 7 31)) (fun L=>[(L0.b 0,PC x),(L0.b 1,PC y),(L0.b 2,PC 0),(L.b 10,FC n1),(L.b 11,FC n2)]) hp1 ⟨
  oI aP,oL 0 0 rF,oI aP,oL 1 0 rF,oC K.stay hg (nF o1 (K.mul x.c0 y.c0)),oI aP,oL 0 6 rF,oI aP,oL 1 6 rF,oC K.stay hg (nF o2 (K.mul x.c1 y.c1)),oZ rF,
  oZ rF,oT rF,oT rF,
  trivial⟩ (fun L1 _ w2 hp2=>?_)
 refine sdrD [.det (L0.p 0),.det (FV x.c0),.det (pt (L0.b 0) 6),.det (FV x.c1),.det (FV n3),.det (L0.p 1),.det (FV y.c0),.det (pt (L0.b 1) 6),.det (FV y.c1),.det (FV n4),.det (FV n5),.alloc (FC 0),.store (.new 11) 0 (FC n5) (FC n5)] (nn 13) [0,1,0,4,15,0,32,0,128,511,1023,0,4095] (fun L d=>D d 0 4++([L0.p 2,L1.p 10,L1.p 11,L.p 11]++D d 8 30)) (fun L=>[(L0.b 0,PC x),(L0.b 1,PC y),(L0.b 2,PC 0),(L1.b 10,FC n1),(L1.b 11,FC n2),(L.b 11,FC n5)]) hp2 ⟨
  oI aP,oL 0 0 rF,oI aP,oL 0 6 rF,oC K.stay hg (nF o3 (K.add x.c0 x.c1)),oI aP,oL 1 0 rF,oI aP,oL 1 6 rF,oC K.stay hg (nF o4 (K.add y.c0 y.c1)),oC K.stay hg (nF o5 (K.mul n3 n4)),
  oZ rF,oT rF,
  trivial⟩ (fun L2 _ w3 hp3=>?_)
 refine sdrD [.det (FV n1),.det (FV n2),.det (FV n6),.det (FV n5),.det (FV n1),.det (FV n7),.det (FV n2),.det (FV n8),.det (PV ⟨n6,n8⟩),.store (.base 2) 0 (PC ⟨n6,n8⟩) (PC ⟨n6,n8⟩)] (nn 10) [0,0,3,0,0,31,0,127,255,511] (fun L d=>D d 0 4++([L0.p 2]++D d 5 33)) (fun L=>[(L0.b 0,PC x),(L0.b 1,PC y),(L0.b 2,PC ⟨n6,n8⟩),(L1.b 10,FC n1),(L1.b 11,FC n2),(L2.b 11,FC n5)]) hp3 ⟨
  oL 3 0 rF,oL 4 0 rF,oC K.stay hg (nF o6 (K.sub n1 n2)),oL 5 0 rF,oL 3 0 rF,oC K.stay hg (nF o7 (K.sub n5 n1)),oL 4 0 rF,oC K.stay hg (nF o8 (K.sub n7 n2)),
  oD (buildP n6 n8),oT rP,
  trivial⟩ (fun L3 _ w4 hp4=>?_)
 refine wp_ret ?_
 refine bodyPost_ret (v:=PV ⟨n6,n8⟩) ?_ rfl ?_
 ·exact rc rP rfl (by kernel_rfl) (hp4.bound 2 rfl).2
 ·exact ⟨fin,hp4.bel⟩
theorem fp2norm {G:World→Prop} (K:FpK G) (x:F2) (w:World) (hg:G w):Calls Tryz.prog 153 #[PV x] w (Ret (FV x.norm) w):=by
 obtain ⟨n1,o1⟩:=nm (x.c0*x.c0)
 obtain ⟨n2,o2⟩:=nm (x.c1*x.c1)
 obtain ⟨n3,o3⟩:=nm (n1+n2)
 have fin:Ending.returned (FV n3)=Ending.returned (FV x.norm):=by subst_vars;exact rfl
 have hp0:=Heap.start w
 go_enter Tryz.func153,Tryz.ntmps153
 refine sgs [.alloc (PC x),.alloc (FC 0)] [0,1] [0,0] (fun L=>[PV x,L.p 0,L.p 1]++U 11) (fun L=>[(L.b 0,PC x),(L.b 1,FC 0)]) hp0 ⟨
  oB,oZ rF,
  trivial⟩ (fun L0 w1 hp1=>?_)
 refine sdrD [.det (L0.p 0),.det (FV x.c0),.det (L0.p 0),.det (FV x.c0),.det (FV n1),.det (pt (L0.b 0) 6),.det (FV x.c1),.det (pt (L0.b 0) 6),.det (FV x.c1),.det (FV n2),.det (FV n3),.store (.base 1) 0 (FC n3) (FC n3)] (nn 12) [0,1,0,4,15,0,32,0,128,511,1023,2047] (fun L d=>D d 0 2++([L0.p 1]++D d 3 11)) (fun L=>[(L0.b 0,PC x),(L0.b 1,FC n3)]) hp1 ⟨
  oI aP,oL 0 0 rF,oI aP,oL 0 0 rF,oC K.stay hg (nF o1 (K.mul x.c0 x.c0)),oI aP,oL 0 6 rF,oI aP,oL 0 6 rF,oC K.stay hg (nF o2 (K.mul x.c1 x.c1)),oC K.stay hg (nF o3 (K.add n1 n2)),
  oT rF,
  trivial⟩ (fun L1 _ w2 hp2=>?_)
 refine wp_ret ?_
 refine bodyPost_ret (v:=FV n3) ?_ rfl ?_
 ·exact rc rF rfl (by kernel_rfl) (hp2.bound 1 rfl).2
 ·exact ⟨fin,hp2.bel⟩
theorem fp2Great1 {G:World→Prop} (K:FpK G) (x:F2) (w:World) (hg:G w) (h1:x.c1=0):Calls Tryz.prog 52 #[PV x] w (Ret (.bool x.great) w):=by
 have hp0:=Heap.start w
 go_enter Tryz.func52,Tryz.ntmps52
 refine sgsD [.alloc (PC x),.det (.bool false)] [0,1] [0,0] (fun L d=>[d 0,L.p 0]++D d 2 11) (fun L=>[(L.b 0,PC x)]) hp0 ⟨
  oB,oA,
  trivial⟩ (fun L0 _ w1 hp1=>?_)
 refine wp_seq_k (fun K2 k2=>?_)
 refine sgsD [.det (pt (L0.b 0) 6),.det (FV x.c1),.det (FV 0),.det (.bool true)] [0,1,2,3] [0,1,0,7] (fun L d=>[d 0,L0.p 0]++(D d 2 4++([.bool true]++D d 7 6))) (fun L=>[(L0.b 0,PC x)]) hp1 ⟨
  oI aP,oL 0 6 rF,oD buildF0,oE (a:=x.c1) (b:=0) qF (yes h1),
  trivial⟩ (fun L1 _ w2 hp2=>?_)
 refine cT ?_
 refine sgsD [.det (L0.p 0),.det (FV x.c0),.det (.bool (great x.c0)),.det (.bool (great x.c0))] [0,1,2,3] [0,1,3,7] (fun L d=>D d 0 2++([.bool (great x.c0)]++D d 3 10)) (fun L=>[(L0.b 0,PC x)]) hp2 ⟨
  oI aP,oL 0 0 rF,oC K.stay hg (K.great x.c0),oA,
  trivial⟩ (fun L2 _ w3 hp3=>?_)
 refine wp_ret ?_
 refine bodyPost_ret (v:=.bool (great x.c0)) ?_ rfl ?_
 ·exact res_t rfl (by kernel_rfl) _
 ·exact ⟨congrArg (fun b=>Ending.returned (.bool b)) (if_pos h1).symm,hp3.bel⟩
theorem fp2Great2 {G:World→Prop} (K:FpK G) (x:F2) (w:World) (hg:G w) (h1:x.c1≠0):Calls Tryz.prog 52 #[PV x] w (Ret (.bool x.great) w):=by
 have hp0:=Heap.start w
 go_enter Tryz.func52,Tryz.ntmps52
 refine sgsD [.alloc (PC x),.det (.bool false)] [0,1] [0,0] (fun L d=>[d 0,L.p 0]++D d 2 11) (fun L=>[(L.b 0,PC x)]) hp0 ⟨
  oB,oA,
  trivial⟩ (fun L0 _ w1 hp1=>?_)
 refine wp_seq_k (fun K2 k2=>?_)
 refine sgsD [.det (pt (L0.b 0) 6),.det (FV x.c1),.det (FV 0),.det (.bool false)] [0,1,2,3] [0,1,0,7] (fun L d=>[d 0,L0.p 0]++(D d 2 4++([.bool false]++D d 7 6))) (fun L=>[(L0.b 0,PC x)]) hp1 ⟨
  oI aP,oL 0 6 rF,oD buildF0,oE (a:=x.c1) (b:=0) qF (nay h1),
  trivial⟩ (fun L1 _ w2 hp2=>?_)
 refine cfk (k2 _ _ ?_)
 refine sgsD [.det (pt (L0.b 0) 6),.det (FV x.c1),.det (.bool (great x.c1)),.det (.bool (great x.c1))] [0,1,2,3] [0,1,3,7] (fun L d=>D d 0 2++([.bool (great x.c1)]++D d 3 10)) (fun L=>[(L0.b 0,PC x)]) hp2 ⟨
  oI aP,oL 0 6 rF,oC K.stay hg (K.great x.c1),oA,
  trivial⟩ (fun L2 _ w3 hp3=>?_)
 refine wp_ret ?_
 refine bodyPost_ret (v:=.bool (great x.c1)) ?_ rfl ?_
 ·exact res_t rfl (by kernel_rfl) _
 ·exact ⟨congrArg (fun b=>Ending.returned (.bool b)) (if_neg h1).symm,hp3.bel⟩
theorem fp2Great {G:World→Prop} (K:FpK G) (x:F2) (w:World) (hg:G w):Calls Tryz.prog 52 #[PV x] w (Ret (.bool x.great) w):=by
 by_cases h:x.c1=0
 ·exact fp2Great1 K x w hg h
 ·exact fp2Great2 K x w hg h
theorem fp2May {G:World→Prop} (K:FpK G) (f g:Nat→Int) (w:World) (hg:G w) (rf:Rg f 6) (rg:Rg g 6) (lf:val f 6<RI) (lg:val g 6<RI):Calls Tryz.prog 131 #[QV2 f g] w (Ret (.bool true) w):=by
 have hp0:=Heap.start w
 go_enter Tryz.func131,Tryz.ntmps131
 refine sgsD [.alloc (QC2 f g),.det (.bool false)] [0,1] [0,0] (fun L d=>[d 0,L.p 0]++D d 2 9) (fun L=>[(L.b 0,QC2 f g)]) hp0 ⟨
  oB,oA,
  trivial⟩ (fun L0 _ w1 hp1=>?_)
 refine sgsD [.det (L0.p 0),.det (QV f),.det (.bool true),.det (.bool true),.det (pt (L0.b 0) 6),.det (QV g),.det (.bool true),.det (.bool true),.det (.bool true)] (nn 9) [0,1,3,7,15,31,63,127,255] (fun L d=>D d 0 2++([.bool true]++D d 3 8)) (fun L=>[(L0.b 0,QC2 f g)]) hp1 ⟨
  oI aP,oL 0 0 rF,oH (v:=.bool true) (vs:=#[QV f]) (fun w hb _=>by have h:=K.may f w (K.stay hg hb) rf;rw [decide_eq_true lf] at h;exact h),oM,oI aP,
  oL 0 6 rF,oH (v:=.bool true) (vs:=#[QV g]) (fun w hb _=>by have h:=K.may g w (K.stay hg hb) rg;rw [decide_eq_true lg] at h;exact h),oP,oA,
  trivial⟩ (fun L1 _ w2 hp2=>?_)
 refine wp_ret ?_
 refine bodyPost_ret (v:=.bool true) ?_ rfl ?_
 ·exact res_t rfl (by kernel_rfl) _
 ·exact ⟨rfl,hp2.bel⟩
end Go.Proofs.YtmibajbpimcfnaaGreatDoor.fpn
/- Package fp2: roots. -/
namespace Go.Proofs.YtmibajbpimcfnaaGreatDoor.fpn
open Go.RowKit Pl
def hf:F:=⟨(RN+1) / 2,by decide +kernel⟩
theorem hf_two:hf+hf=1:=by kernel_rfl
theorem fp2flat1 {G:World→Prop} (K:FpK G) (z:F) (w:World) (hg:G w) (hq:isq z=true):Calls Tryz.prog 144 #[FV z] w (Ret (PV ⟨root z,0⟩) w):=by
 have hp0:=Heap.start w
 go_enter Tryz.func144,Tryz.ntmps144
 refine sgs [.alloc (FC z),.alloc (PC 0)] [0,1] [0,0] (fun L=>[FV z,L.p 0,L.p 1]++U 21) (fun L=>[(L.b 0,FC z),(L.b 1,PC 0)]) hp0 ⟨
  oB,oZ rP,
  trivial⟩ (fun L0 w1 hp1=>?_)
 refine wp_seq_k (fun K2 k2=>?_)
 refine sgsD [.det (FV z),.det (.tuple #[FV (root z),.bool true]),.det (.tuple #[FV (root z),.bool true]),.det (FV (root z)),.det (.bool true),.alloc (FC 0),.store (.new 5) 0 (FC (root z)) (FC (root z)),.det (.bool true)] (nn 8) [0,1,3,7,7,0,47,127] (fun L d=>D d 0 2++([L0.p 1,L.p 5,.bool true]++D d 5 19)) (fun L=>[(L0.b 0,FC z),(L0.b 1,PC 0),(L.b 5,FC (root z))]) hp1 ⟨
  oL 0 0 rF,oH (v:=.tuple #[FV (root z),.bool true]) (vs:=#[FV z]) (fun w hb _=>by have h:=K.sqrt z w (K.stay hg hb);rw [hq] at h;exact h),oM,oX,
  oX,oZ rF,oT rF,oA,
  trivial⟩ (fun L1 _ w2 hp2=>?_)
 refine sgsD [.det (.bool true)] [0] [0] (fun L d=>D d 0 2++([L0.p 1,L1.p 5]++(D d 4 8++([.bool true]++D d 13 11)))) (fun L=>[(L0.b 0,FC z),(L0.b 1,PC 0),(L1.b 5,FC (root z))]) hp2 ⟨
  oM,
  trivial⟩ (fun L2 _ w3 hp3=>?_)
 refine cT ?_
 refine sgsD [.det (FV (root z)),.det (PV ⟨(root z),0⟩),.store (.base 1) 0 (PC ⟨(root z),0⟩) (PC ⟨(root z),0⟩)] [0,1,2] [0,1,3] (fun L d=>D d 0 2++([L0.p 1]++D d 3 21)) (fun L=>[(L0.b 0,FC z),(L0.b 1,PC ⟨(root z),0⟩),(L1.b 5,FC (root z))]) hp3 ⟨
  oL 2 0 rF,oD (buildPa (root z)),oT rP,
  trivial⟩ (fun L3 _ w4 hp4=>?_)
 refine wp_ret ?_
 refine bodyPost_ret (v:=PV ⟨(root z),0⟩) ?_ rfl ?_
 ·exact rc rP rfl (by kernel_rfl) (hp4.bound 1 rfl).2
 ·exact ⟨rfl,hp4.bel⟩
theorem fp2flat2 {G:World→Prop} (K:FpK G) (z:F) (w:World) (hg:G w) (hq:isq z=false):Calls Tryz.prog 144 #[FV z] w (Ret (PV ⟨0,root (-z)⟩) w):=by
 have hp0:=Heap.start w
 go_enter Tryz.func144,Tryz.ntmps144
 refine sgs [.alloc (FC z),.alloc (PC 0)] [0,1] [0,0] (fun L=>[FV z,L.p 0,L.p 1]++U 21) (fun L=>[(L.b 0,FC z),(L.b 1,PC 0)]) hp0 ⟨
  oB,oZ rP,
  trivial⟩ (fun L0 w1 hp1=>?_)
 refine wp_seq_k (fun K2 k2=>?_)
 refine sgsD [.det (FV z),.det (.tuple #[FV (root z),.bool false]),.det (.tuple #[FV (root z),.bool false]),.det (FV (root z)),.det (.bool false),.alloc (FC 0),.store (.new 5) 0 (FC (root z)) (FC (root z)),.det (.bool false)] (nn 8) [0,1,3,7,7,0,47,127] (fun L d=>[d 0,L0.p 0,L0.p 1,d 3,.bool false]++D d 5 19) (fun L=>[(L0.b 0,FC z),(L0.b 1,PC 0),(L.b 5,FC (root z))]) hp1 ⟨
  oL 0 0 rF,oH (v:=.tuple #[FV (root z),.bool false]) (vs:=#[FV z]) (fun w hb _=>by have h:=K.sqrt z w (K.stay hg hb);rw [hq] at h;exact h),oM,oX,
  oX,oZ rF,oT rF,oA,
  trivial⟩ (fun L1 _ w2 hp2=>?_)
 refine sgsD [.det (.bool false)] [0] [0] (fun L d=>[d 0,L0.p 0,L0.p 1]++(D d 3 9++([.bool false]++D d 13 11))) (fun L=>[(L0.b 0,FC z),(L0.b 1,PC 0),(L1.b 5,FC (root z))]) hp2 ⟨
  oM,
  trivial⟩ (fun L2 _ w3 hp3=>?_)
 refine cfk (k2 _ _ ?_)
 refine sgsD [.det (FV z),.det (FV (-z)),.det (.tuple #[FV (root (-z)),.bool (isq (-z))]),.det (.tuple #[FV (root (-z)),.bool (isq (-z))]),.det (FV (root (-z))),.det (.bool (isq (-z))),.alloc (FC 0),.store (.new 6) 0 (FC (root (-z))) (FC (root (-z))),.det (.bool (isq (-z)))] (nn 9) [0,1,3,7,15,15,0,95,255] (fun L d=>D d 0 2++([L0.p 1]++(D d 3 2++([L.p 6]++D d 6 18)))) (fun L=>[(L0.b 0,FC z),(L0.b 1,PC 0),(L1.b 5,FC (root z)),(L.b 6,FC (root (-z)))]) hp3 ⟨
  oL 0 0 rF,oC K.stay hg (K.neg z),oC K.stay hg (K.sqrt (-z)),oM,oX,oX,oZ rF,oT rF,oA,
  trivial⟩ (fun L3 _ w4 hp4=>?_)
 refine sgsD [.det (FV 0),.det (FV (root (-z))),.det (PV ⟨0,(root (-z))⟩),.store (.base 1) 0 (PC ⟨0,(root (-z))⟩) (PC ⟨0,(root (-z))⟩)] [0,1,2,3] [0,0,3,7] (fun L d=>D d 0 2++([L0.p 1]++D d 3 21)) (fun L=>[(L0.b 0,FC z),(L0.b 1,PC ⟨0,(root (-z))⟩),(L1.b 5,FC (root z)),(L3.b 6,FC (root (-z)))]) hp4 ⟨
  oD buildF0,oL 3 0 rF,oD (buildP 0 (root (-z))),oT rP,
  trivial⟩ (fun L4 _ w5 hp5=>?_)
 refine wp_ret ?_
 refine bodyPost_ret (v:=PV ⟨0,(root (-z))⟩) ?_ rfl ?_
 ·exact rc rP rfl (by kernel_rfl) (hp5.bound 1 rfl).2
 ·exact ⟨rfl,hp5.bel⟩
theorem fp2cross0 {G:World→Prop} (K:FpK G) (x:F2) (w:World) (hg:G w) (hq:isq x.norm=false):Calls Tryz.prog 145 #[PV x] w (Ret (PV 0) w):=by
 have hp0:=Heap.start w
 go_enter Tryz.func145,Tryz.ntmps145
 refine sgs [.alloc (PC x),.alloc (PC 0)] [0,1] [0,0] (fun L=>[PV x,L.p 0,L.p 1]++U 49) (fun L=>[(L.b 0,PC x),(L.b 1,PC 0)]) hp0 ⟨
  oB,oZ rP,
  trivial⟩ (fun L0 w1 hp1=>?_)
 refine sgsD [.det (PV x),.det (FV x.norm),.det (.tuple #[FV (root x.norm),.bool false]),.det (.tuple #[FV (root x.norm),.bool false]),.det (FV (root x.norm)),.det (.bool false),.alloc (FC 0),.store (.new 6) 0 (FC (root x.norm)) (FC (root x.norm)),.det (.bool false)] (nn 9) [0,1,3,7,15,15,0,95,255] (fun L d=>D d 0 2++([L0.p 1,d 3,.bool false]++D d 5 47)) (fun L=>[(L0.b 0,PC x),(L0.b 1,PC 0),(L.b 6,FC (root x.norm))]) hp1 ⟨
  oL 0 0 rP,oC K.stay hg (fp2norm K x),oH (v:=.tuple #[FV (root x.norm),.bool false]) (vs:=#[FV x.norm]) (fun w hb _=>by have h:=K.sqrt x.norm w (K.stay hg hb);rw [hq] at h;exact h),
  oM,oX,oX,oZ rF,oT rF,oA,
  trivial⟩ (fun L1 _ w2 hp2=>?_)
 refine wp_seq_k (fun K3 k3=>?_)
 refine sgsD [.det (.bool false),.det (.bool true)] [0,1] [0,1] (fun L d=>D d 0 2++([L0.p 1]++(D d 3 12++([.bool true]++D d 16 36)))) (fun L=>[(L0.b 0,PC x),(L0.b 1,PC 0),(L1.b 6,FC (root x.norm))]) hp2 ⟨
  oM,oN,
  trivial⟩ (fun L2 _ w3 hp3=>?_)
 refine cT ?_
 refine sgsD [.det (PV 0),.store (.base 1) 0 (PC 0) (PC 0)] [0,1] [0,1] (fun L d=>D d 0 2++([L0.p 1]++D d 3 49)) (fun L=>[(L0.b 0,PC x),(L0.b 1,PC 0),(L1.b 6,FC (root x.norm))]) hp3 ⟨
  oD buildP0,oT rP,
  trivial⟩ (fun L3 _ w4 hp4=>?_)
 refine wp_ret ?_
 refine bodyPost_ret (v:=PV 0) ?_ rfl ?_
 ·exact rc rP rfl (by kernel_rfl) (hp4.bound 1 rfl).2
 ·exact ⟨rfl,hp4.bel⟩
theorem fp2cross1 {G:World→Prop} (K:FpK G) (x:F2) (w:World) (hg:G w) (hH:∀ w,G w→w.rangeAt 2 0 (FC hf)) (hq:isq x.norm=true) (ht:isq ((x.c0+(root x.norm))*hf)=true) (hn:root ((x.c0+(root x.norm))*hf)≠0):Calls Tryz.prog 145 #[PV x] w (Ret (PV ⟨root ((x.c0+(root x.norm))*hf),x.c1*hf*finv (root ((x.c0+(root x.norm))*hf))⟩) w):=by
 have hp0:=Heap.start w
 go_enter Tryz.func145,Tryz.ntmps145
 refine sgs [.alloc (PC x),.alloc (PC 0)] [0,1] [0,0] (fun L=>[PV x,L.p 0,L.p 1]++U 49) (fun L=>[(L.b 0,PC x),(L.b 1,PC 0)]) hp0 ⟨
  oB,oZ rP,
  trivial⟩ (fun L0 w1 hp1=>?_)
 refine sgsD [.det (PV x),.det (FV x.norm),.det (.tuple #[FV (root x.norm),.bool true]),.det (.tuple #[FV (root x.norm),.bool true]),.det (FV (root x.norm)),.det (.bool true),.alloc (FC 0),.store (.new 6) 0 (FC (root x.norm)) (FC (root x.norm)),.det (.bool true)] (nn 9) [0,1,3,7,15,15,0,95,255] (fun L d=>[d 0,L0.p 0,L0.p 1,L.p 6,.bool true]++D d 5 47) (fun L=>[(L0.b 0,PC x),(L0.b 1,PC 0),(L.b 6,FC (root x.norm))]) hp1 ⟨
  oL 0 0 rP,oC K.stay hg (fp2norm K x),oH (v:=.tuple #[FV (root x.norm),.bool true]) (vs:=#[FV x.norm]) (fun w hb _=>by have h:=K.sqrt x.norm w (K.stay hg hb);rw [hq] at h;exact h),
  oM,oX,oX,oZ rF,oT rF,oA,
  trivial⟩ (fun L1 _ w2 hp2=>?_)
 refine wp_seq_k (fun K3 k3=>?_)
 refine sgsD [.det (.bool true),.det (.bool false)] [0,1] [0,1] (fun L d=>[d 0,L0.p 0,L0.p 1,L1.p 6]++(D d 4 11++([.bool false]++D d 16 36))) (fun L=>[(L0.b 0,PC x),(L0.b 1,PC 0),(L1.b 6,FC (root x.norm))]) hp2 ⟨
  oM,oN,
  trivial⟩ (fun L2 _ w3 hp3=>?_)
 refine cfk (k3 _ _ ?_)
 refine sdrD [.det (L0.p 0),.det (FV x.c0),.det (FV (root x.norm)),.det (FV (x.c0+(root x.norm))),.det (FV hf),.det (FV ((x.c0+(root x.norm))*hf)),.det (.tuple #[FV (root ((x.c0+(root x.norm))*hf)),.bool true]),.det (.tuple #[FV (root ((x.c0+(root x.norm))*hf)),.bool true]),.det (FV (root ((x.c0+(root x.norm))*hf))),.det (.bool true),.alloc (FC 0),.store (.new 10) 0 (FC (root ((x.c0+(root x.norm))*hf))) (FC (root ((x.c0+(root x.norm))*hf))),.det (.bool true)] (nn 13) [0,1,0,7,0,31,63,127,255,255,0,1535,4095] (fun L d=>[d 0,L0.p 0,L0.p 1,d 3,.bool true,L.p 10]++D d 6 46) (fun L=>[(L0.b 0,PC x),(L0.b 1,PC 0),(L1.b 6,FC (root x.norm)),(L.b 10,FC (root ((x.c0+(root x.norm))*hf)))]) hp3 ⟨
  oI aP,oL 0 0 rF,oL 2 0 rF,oC K.stay hg (K.add x.c0 (root x.norm)),oG rF (fun _ w hs=>hH w (K.stay hg hs.bel)),oC K.stay hg (K.mul (x.c0+(root x.norm)) hf),
  oH (v:=.tuple #[FV (root ((x.c0+(root x.norm))*hf)),.bool true]) (vs:=#[FV ((x.c0+(root x.norm))*hf)]) (fun w hb _=>by have h:=K.sqrt ((x.c0+(root x.norm))*hf) w (K.stay hg hb);rw [ht] at h;exact h),
  oM,oX,oX,oZ rF,oT rF,oA,
  trivial⟩ (fun L3 _ w4 hp4=>?_)
 refine wp_seq_k (fun K6 k6=>?_)
 refine sgsD [.det (.bool true),.det (.bool false)] [0,1] [0,1] (fun L d=>[d 0,L0.p 0,L0.p 1]++(D d 3 2++([L3.p 10]++(D d 6 22++([.bool false]++D d 29 23))))) (fun L=>[(L0.b 0,PC x),(L0.b 1,PC 0),(L1.b 6,FC (root x.norm)),(L3.b 10,FC (root ((x.c0+(root x.norm))*hf)))]) hp4 ⟨
  oM,oN,
  trivial⟩ (fun L4 _ w5 hp5=>?_)
 refine cfk (k6 _ _ ?_)
 refine sgsD [.det (FV (root ((x.c0+(root x.norm))*hf))),.det (.tuple #[FV (finv (root ((x.c0+(root x.norm))*hf))),.int .i64 0]),.det (.tuple #[FV (finv (root ((x.c0+(root x.norm))*hf))),.int .i64 0]),.det (FV (finv (root ((x.c0+(root x.norm))*hf)))),.det (.int .i64 0),.alloc (FC 0),.store (.new 5) 0 (FC (finv (root ((x.c0+(root x.norm))*hf)))) (FC (finv (root ((x.c0+(root x.norm))*hf)))),.det (.int .i64 0)] (nn 8) [0,1,3,7,7,0,47,127] (fun L d=>[d 0,L0.p 0,L0.p 1]++(D d 3 2++([L3.p 10,L.p 5]++D d 7 45))) (fun L=>[(L0.b 0,PC x),(L0.b 1,PC 0),(L1.b 6,FC (root x.norm)),(L3.b 10,FC (root ((x.c0+(root x.norm))*hf))),(L.b 5,FC (finv (root ((x.c0+(root x.norm))*hf))))]) hp5 ⟨
  oL 3 0 rF,oH (v:=.tuple #[FV (finv (root ((x.c0+(root x.norm))*hf))),.int .i64 0]) (vs:=#[FV (root ((x.c0+(root x.norm))*hf))]) (fun w hb _=>K.inv _ w (K.stay hg hb) hn),
  oM,oX,oX,oZ rF,oT rF,oA,
  trivial⟩ (fun L5 _ w6 hp6=>?_)
 refine sdrD [.det (FV (root ((x.c0+(root x.norm))*hf))),.det (pt (L0.b 0) 6),.det (FV x.c1),.det (FV hf),.det (FV (x.c1*hf)),.det (FV (finv (root ((x.c0+(root x.norm))*hf)))),.det (FV ((x.c1*hf)*(finv (root ((x.c0+(root x.norm))*hf))))),.det (PV ⟨(root ((x.c0+(root x.norm))*hf)),((x.c1*hf)*(finv (root ((x.c0+(root x.norm))*hf))))⟩),.store (.base 1) 0 (PC ⟨(root ((x.c0+(root x.norm))*hf)),((x.c1*hf)*(finv (root ((x.c0+(root x.norm))*hf))))⟩) (PC ⟨(root ((x.c0+(root x.norm))*hf)),((x.c1*hf)*(finv (root ((x.c0+(root x.norm))*hf))))⟩)] (nn 9) [0,0,2,0,14,0,62,127,255] (fun L d=>D d 0 2++([L0.p 1]++D d 3 49)) (fun L=>[(L0.b 0,PC x),(L0.b 1,PC ⟨(root ((x.c0+(root x.norm))*hf)),((x.c1*hf)*(finv (root ((x.c0+(root x.norm))*hf))))⟩),(L1.b 6,FC (root x.norm)),(L3.b 10,FC (root ((x.c0+(root x.norm))*hf))),(L5.b 5,FC (finv (root ((x.c0+(root x.norm))*hf))))]) hp6 ⟨
  oL 3 0 rF,oI aP,oL 0 6 rF,oG rF (fun _ w hs=>hH w (K.stay hg hs.bel)),oC K.stay hg (K.mul x.c1 hf),oL 4 0 rF,oC K.stay hg (K.mul (x.c1*hf) (finv (root ((x.c0+(root x.norm))*hf)))),
  oD (buildP (root ((x.c0+(root x.norm))*hf)) ((x.c1*hf)*(finv (root ((x.c0+(root x.norm))*hf))))),oT rP,
  trivial⟩ (fun L6 _ w7 hp7=>?_)
 refine wp_ret ?_
 refine bodyPost_ret (v:=PV ⟨(root ((x.c0+(root x.norm))*hf)),((x.c1*hf)*(finv (root ((x.c0+(root x.norm))*hf))))⟩) ?_ rfl ?_
 ·exact rc rP rfl (by kernel_rfl) (hp7.bound 1 rfl).2
 ·exact ⟨rfl,hp7.bel⟩
theorem fp2cross2 {G:World→Prop} (K:FpK G) (x:F2) (w:World) (hg:G w) (hH:∀ w,G w→w.rangeAt 2 0 (FC hf)) (hq:isq x.norm=true) (ht:isq ((x.c0+(root x.norm))*hf)=false) (hn:root ((x.c0-(root x.norm))*hf)≠0):Calls Tryz.prog 145 #[PV x] w (Ret (PV ⟨root ((x.c0-(root x.norm))*hf),x.c1*hf*finv (root ((x.c0-(root x.norm))*hf))⟩) w):=by
 have hp0:=Heap.start w
 go_enter Tryz.func145,Tryz.ntmps145
 refine sgs [.alloc (PC x),.alloc (PC 0)] [0,1] [0,0] (fun L=>[PV x,L.p 0,L.p 1]++U 49) (fun L=>[(L.b 0,PC x),(L.b 1,PC 0)]) hp0 ⟨
  oB,oZ rP,
  trivial⟩ (fun L0 w1 hp1=>?_)
 refine sgsD [.det (PV x),.det (FV x.norm),.det (.tuple #[FV (root x.norm),.bool true]),.det (.tuple #[FV (root x.norm),.bool true]),.det (FV (root x.norm)),.det (.bool true),.alloc (FC 0),.store (.new 6) 0 (FC (root x.norm)) (FC (root x.norm)),.det (.bool true)] (nn 9) [0,1,3,7,15,15,0,95,255] (fun L d=>[d 0,L0.p 0,L0.p 1,L.p 6,.bool true]++D d 5 47) (fun L=>[(L0.b 0,PC x),(L0.b 1,PC 0),(L.b 6,FC (root x.norm))]) hp1 ⟨
  oL 0 0 rP,oC K.stay hg (fp2norm K x),oH (v:=.tuple #[FV (root x.norm),.bool true]) (vs:=#[FV x.norm]) (fun w hb _=>by have h:=K.sqrt x.norm w (K.stay hg hb);rw [hq] at h;exact h),
  oM,oX,oX,oZ rF,oT rF,oA,
  trivial⟩ (fun L1 _ w2 hp2=>?_)
 refine wp_seq_k (fun K3 k3=>?_)
 refine sgsD [.det (.bool true),.det (.bool false)] [0,1] [0,1] (fun L d=>[d 0,L0.p 0,L0.p 1,L1.p 6]++(D d 4 11++([.bool false]++D d 16 36))) (fun L=>[(L0.b 0,PC x),(L0.b 1,PC 0),(L1.b 6,FC (root x.norm))]) hp2 ⟨
  oM,oN,
  trivial⟩ (fun L2 _ w3 hp3=>?_)
 refine cfk (k3 _ _ ?_)
 refine sdrD [.det (L0.p 0),.det (FV x.c0),.det (FV (root x.norm)),.det (FV (x.c0+(root x.norm))),.det (FV hf),.det (FV ((x.c0+(root x.norm))*hf)),.det (.tuple #[FV (root ((x.c0+(root x.norm))*hf)),.bool false]),.det (.tuple #[FV (root ((x.c0+(root x.norm))*hf)),.bool false]),.det (FV (root ((x.c0+(root x.norm))*hf))),.det (.bool false),.alloc (FC 0),.store (.new 10) 0 (FC (root ((x.c0+(root x.norm))*hf))) (FC (root ((x.c0+(root x.norm))*hf))),.det (.bool false)] (nn 13) [0,1,0,7,0,31,63,127,255,255,0,1535,4095] (fun L d=>[d 0,L0.p 0,L0.p 1,L1.p 6,.bool false,L.p 10]++D d 6 46) (fun L=>[(L0.b 0,PC x),(L0.b 1,PC 0),(L1.b 6,FC (root x.norm)),(L.b 10,FC (root ((x.c0+(root x.norm))*hf)))]) hp3 ⟨
  oI aP,oL 0 0 rF,oL 2 0 rF,oC K.stay hg (K.add x.c0 (root x.norm)),oG rF (fun _ w hs=>hH w (K.stay hg hs.bel)),oC K.stay hg (K.mul (x.c0+(root x.norm)) hf),
  oH (v:=.tuple #[FV (root ((x.c0+(root x.norm))*hf)),.bool false]) (vs:=#[FV ((x.c0+(root x.norm))*hf)]) (fun w hb _=>by have h:=K.sqrt ((x.c0+(root x.norm))*hf) w (K.stay hg hb);rw [ht] at h;exact h),
  oM,oX,oX,oZ rF,oT rF,oA,
  trivial⟩ (fun L3 _ w4 hp4=>?_)
 refine wp_seq_k (fun K6 k6=>?_)
 refine sgsD [.det (.bool false),.det (.bool true)] [0,1] [0,1] (fun L d=>[d 0,L0.p 0,L0.p 1,L1.p 6,d 4,L3.p 10]++(D d 6 22++([.bool true]++D d 29 23))) (fun L=>[(L0.b 0,PC x),(L0.b 1,PC 0),(L1.b 6,FC (root x.norm)),(L3.b 10,FC (root ((x.c0+(root x.norm))*hf)))]) hp4 ⟨
  oM,oN,
  trivial⟩ (fun L4 _ w5 hp5=>?_)
 refine cT ?_
 refine drD [.det (L0.p 0),.det (FV x.c0),.det (FV (root x.norm)),.det (FV (x.c0-(root x.norm))),.det (FV hf),.det (FV ((x.c0-(root x.norm))*hf)),.det (.tuple #[FV (root ((x.c0-(root x.norm))*hf)),.bool (isq ((x.c0-(root x.norm))*hf))]),.det (.tuple #[FV (root ((x.c0-(root x.norm))*hf)),.bool (isq ((x.c0-(root x.norm))*hf))]),.det (FV (root ((x.c0-(root x.norm))*hf))),.det (.bool (isq ((x.c0-(root x.norm))*hf))),.store (.base 3) 0 (FC (root ((x.c0-(root x.norm))*hf))) (FC (root ((x.c0-(root x.norm))*hf)))] (nn 11) [0,1,0,7,0,31,63,127,255,255,511] (fun L d=>[d 0,L0.p 0,L0.p 1]++(D d 3 2++([L3.p 10]++D d 6 46))) (fun L=>[(L0.b 0,PC x),(L0.b 1,PC 0),(L1.b 6,FC (root x.norm)),(L3.b 10,FC (root ((x.c0-(root x.norm))*hf)))]) hp5 ⟨
  oI aP,oL 0 0 rF,oL 2 0 rF,oC K.stay hg (K.sub x.c0 (root x.norm)),oG rF (fun _ w hs=>hH w (K.stay hg hs.bel)),oC K.stay hg (K.mul (x.c0-(root x.norm)) hf),
  oC K.stay hg (K.sqrt ((x.c0-(root x.norm))*hf)),oM,oX,oX,oT rF,
  trivial⟩ (fun L5 _ w6 hp6=>?_)
 refine k6 _ _ ?_
 refine sgsD [.det (FV (root ((x.c0-(root x.norm))*hf))),.det (.tuple #[FV (finv (root ((x.c0-(root x.norm))*hf))),.int .i64 0]),.det (.tuple #[FV (finv (root ((x.c0-(root x.norm))*hf))),.int .i64 0]),.det (FV (finv (root ((x.c0-(root x.norm))*hf)))),.det (.int .i64 0),.alloc (FC 0),.store (.new 5) 0 (FC (finv (root ((x.c0-(root x.norm))*hf)))) (FC (finv (root ((x.c0-(root x.norm))*hf)))),.det (.int .i64 0)] (nn 8) [0,1,3,7,7,0,47,127] (fun L d=>[d 0,L0.p 0,L0.p 1]++(D d 3 2++([L3.p 10,L.p 5]++D d 7 45))) (fun L=>[(L0.b 0,PC x),(L0.b 1,PC 0),(L1.b 6,FC (root x.norm)),(L3.b 10,FC (root ((x.c0-(root x.norm))*hf))),(L.b 5,FC (finv (root ((x.c0-(root x.norm))*hf))))]) hp6 ⟨
  oL 3 0 rF,oH (v:=.tuple #[FV (finv (root ((x.c0-(root x.norm))*hf))),.int .i64 0]) (vs:=#[FV (root ((x.c0-(root x.norm))*hf))]) (fun w hb _=>K.inv _ w (K.stay hg hb) hn),
  oM,oX,oX,oZ rF,oT rF,oA,
  trivial⟩ (fun L6 _ w7 hp7=>?_)
 refine sdrD [.det (FV (root ((x.c0-(root x.norm))*hf))),.det (pt (L0.b 0) 6),.det (FV x.c1),.det (FV hf),.det (FV (x.c1*hf)),.det (FV (finv (root ((x.c0-(root x.norm))*hf)))),.det (FV ((x.c1*hf)*(finv (root ((x.c0-(root x.norm))*hf))))),.det (PV ⟨(root ((x.c0-(root x.norm))*hf)),((x.c1*hf)*(finv (root ((x.c0-(root x.norm))*hf))))⟩),.store (.base 1) 0 (PC ⟨(root ((x.c0-(root x.norm))*hf)),((x.c1*hf)*(finv (root ((x.c0-(root x.norm))*hf))))⟩) (PC ⟨(root ((x.c0-(root x.norm))*hf)),((x.c1*hf)*(finv (root ((x.c0-(root x.norm))*hf))))⟩)] (nn 9) [0,0,2,0,14,0,62,127,255] (fun L d=>D d 0 2++([L0.p 1]++D d 3 49)) (fun L=>[(L0.b 0,PC x),(L0.b 1,PC ⟨(root ((x.c0-(root x.norm))*hf)),((x.c1*hf)*(finv (root ((x.c0-(root x.norm))*hf))))⟩),(L1.b 6,FC (root x.norm)),(L3.b 10,FC (root ((x.c0-(root x.norm))*hf))),(L6.b 5,FC (finv (root ((x.c0-(root x.norm))*hf))))]) hp7 ⟨
  oL 3 0 rF,oI aP,oL 0 6 rF,oG rF (fun _ w hs=>hH w (K.stay hg hs.bel)),oC K.stay hg (K.mul x.c1 hf),oL 4 0 rF,oC K.stay hg (K.mul (x.c1*hf) (finv (root ((x.c0-(root x.norm))*hf)))),
  oD (buildP (root ((x.c0-(root x.norm))*hf)) ((x.c1*hf)*(finv (root ((x.c0-(root x.norm))*hf))))),oT rP,
  trivial⟩ (fun L7 _ w8 hp8=>?_)
 refine wp_ret ?_
 refine bodyPost_ret (v:=PV ⟨(root ((x.c0-(root x.norm))*hf)),((x.c1*hf)*(finv (root ((x.c0-(root x.norm))*hf))))⟩) ?_ rfl ?_
 ·exact rc rP rfl (by kernel_rfl) (hp8.bound 1 rfl).2
 ·exact ⟨rfl,hp8.bel⟩
end Go.Proofs.YtmibajbpimcfnaaGreatDoor.fpn
