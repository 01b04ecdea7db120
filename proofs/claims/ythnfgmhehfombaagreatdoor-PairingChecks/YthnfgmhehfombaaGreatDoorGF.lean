/- Texts laid together. -/
import Derived.Test.YthnfgmhehfombaaGreatDoorGE
import Derived.Test.YthnfgmhehfombaaGreatDoorGC
set_option linter.unusedVariables false
set_option linter.unusedSimpArgs false
set_option maxRecDepth 4000
set_option maxHeartbeats 4000000
/- Package fp2: sums, products and what is made of them. -/
namespace Go.Proofs.YthnfgmhehfombaaGreatDoor.fpn
open Go.RowKit Pl
theorem fp2Add {G:World→Prop} (K:FpK G) (x y:F2) (w:World) (hg:G w):Calls Tryz.prog 99 #[PV x,PV y] w (Ret (PV (x+y)) w):=by
 obtain ⟨n1,o1⟩:=nm (x.c0+y.c0)
 obtain ⟨n2,o2⟩:=nm (x.c1+y.c1)
 have fin:Ending.returned (PV ⟨n1,n2⟩)=Ending.returned (PV (x+y)):=by subst_vars;exact rfl
 have hp0:=Heap.start w
 go_enter Tryz.func99,Tryz.ntmps99
 refine sgs [.alloc (PC x),.alloc (PC y),.alloc (PC 0)] [0,1,2] [0,0,0] (fun L=>[PV x,PV y,L.p 0,L.p 1,L.p 2]++U 11) (fun L=>[(L.b 0,PC x),(L.b 1,PC y),(L.b 2,PC 0)]) hp0 ⟨
  oB,oB,oZ rP,
  trivial⟩ (fun L0 w1 hp1=>?_)
 refine sdrD [.det (L0.p 0),.det (FV x.c0),.det (L0.p 1),.det (FV y.c0),.det (FV n1),.det (pt (L0.b 0) 6),.det (FV x.c1),.det (pt (L0.b 1) 6),.det (FV y.c1),.det (FV n2),.det (PV ⟨n1,n2⟩),.store (.base 2) 0 (PC ⟨n1,n2⟩) (PC ⟨n1,n2⟩)] (nn 12) [0,1,0,4,15,0,32,0,128,511,1023,2047] (fun L d=>D d 0 4++([L0.p 2]++D d 5 11)) (fun L=>[(L0.b 0,PC x),(L0.b 1,PC y),(L0.b 2,PC ⟨n1,n2⟩)]) hp1 ⟨
  oI aP,oL 0 0 rF,oI aP,oL 1 0 rF,oC K.stay hg (nF o1 (K.add x.c0 y.c0)),oI aP,oL 0 6 rF,oI aP,oL 1 6 rF,oC K.stay hg (nF o2 (K.add x.c1 y.c1)),oD (buildP n1 n2),
  oT rP,
  trivial⟩ (fun L1 _ w2 hp2=>?_)
 refine wp_ret ?_
 refine bodyPost_ret (v:=PV ⟨n1,n2⟩) ?_ rfl ?_
 ·exact rc rP rfl (by kernel_rfl) (hp2.bound 2 rfl).2
 ·exact ⟨fin,hp2.bel⟩
theorem fp2Sub {G:World→Prop} (K:FpK G) (x y:F2) (w:World) (hg:G w):Calls Tryz.prog 101 #[PV x,PV y] w (Ret (PV (x-y)) w):=by
 obtain ⟨n1,o1⟩:=nm (x.c0-y.c0)
 obtain ⟨n2,o2⟩:=nm (x.c1-y.c1)
 have fin:Ending.returned (PV ⟨n1,n2⟩)=Ending.returned (PV (x-y)):=by subst_vars;exact rfl
 have hp0:=Heap.start w
 go_enter Tryz.func101,Tryz.ntmps101
 refine sgs [.alloc (PC x),.alloc (PC y),.alloc (PC 0)] [0,1,2] [0,0,0] (fun L=>[PV x,PV y,L.p 0,L.p 1,L.p 2]++U 11) (fun L=>[(L.b 0,PC x),(L.b 1,PC y),(L.b 2,PC 0)]) hp0 ⟨
  oB,oB,oZ rP,
  trivial⟩ (fun L0 w1 hp1=>?_)
 refine sdrD [.det (L0.p 0),.det (FV x.c0),.det (L0.p 1),.det (FV y.c0),.det (FV n1),.det (pt (L0.b 0) 6),.det (FV x.c1),.det (pt (L0.b 1) 6),.det (FV y.c1),.det (FV n2),.det (PV ⟨n1,n2⟩),.store (.base 2) 0 (PC ⟨n1,n2⟩) (PC ⟨n1,n2⟩)] (nn 12) [0,1,0,4,15,0,32,0,128,511,1023,2047] (fun L d=>D d 0 4++([L0.p 2]++D d 5 11)) (fun L=>[(L0.b 0,PC x),(L0.b 1,PC y),(L0.b 2,PC ⟨n1,n2⟩)]) hp1 ⟨
  oI aP,oL 0 0 rF,oI aP,oL 1 0 rF,oC K.stay hg (nF o1 (K.sub x.c0 y.c0)),oI aP,oL 0 6 rF,oI aP,oL 1 6 rF,oC K.stay hg (nF o2 (K.sub x.c1 y.c1)),oD (buildP n1 n2),
  oT rP,
  trivial⟩ (fun L1 _ w2 hp2=>?_)
 refine wp_ret ?_
 refine bodyPost_ret (v:=PV ⟨n1,n2⟩) ?_ rfl ?_
 ·exact rc rP rfl (by kernel_rfl) (hp2.bound 2 rfl).2
 ·exact ⟨fin,hp2.bel⟩
theorem fp2Neg {G:World→Prop} (K:FpK G) (x:F2) (w:World) (hg:G w):Calls Tryz.prog 126 #[PV x] w (Ret (PV (-x)) w):=by
 obtain ⟨n1,o1⟩:=nm (-x.c0)
 obtain ⟨n2,o2⟩:=nm (-x.c1)
 have fin:Ending.returned (PV ⟨n1,n2⟩)=Ending.returned (PV (-x)):=by subst_vars;exact rfl
 have hp0:=Heap.start w
 go_enter Tryz.func126,Tryz.ntmps126
 refine sgs [.alloc (PC x),.alloc (PC 0)] [0,1] [0,0] (fun L=>[PV x,L.p 0,L.p 1]++U 7) (fun L=>[(L.b 0,PC x),(L.b 1,PC 0)]) hp0 ⟨
  oB,oZ rP,
  trivial⟩ (fun L0 w1 hp1=>?_)
 refine sdrD [.det (L0.p 0),.det (FV x.c0),.det (FV n1),.det (pt (L0.b 0) 6),.det (FV x.c1),.det (FV n2),.det (PV ⟨n1,n2⟩),.store (.base 1) 0 (PC ⟨n1,n2⟩) (PC ⟨n1,n2⟩)] (nn 8) [0,1,3,0,8,31,63,127] (fun L d=>D d 0 2++([L0.p 1]++D d 3 7)) (fun L=>[(L0.b 0,PC x),(L0.b 1,PC ⟨n1,n2⟩)]) hp1 ⟨
  oI aP,oL 0 0 rF,oC K.stay hg (nF o1 (K.neg x.c0)),oI aP,oL 0 6 rF,oC K.stay hg (nF o2 (K.neg x.c1)),oD (buildP n1 n2),oT rP,
  trivial⟩ (fun L1 _ w2 hp2=>?_)
 refine wp_ret ?_
 refine bodyPost_ret (v:=PV ⟨n1,n2⟩) ?_ rfl ?_
 ·exact rc rP rfl (by kernel_rfl) (hp2.bound 1 rfl).2
 ·exact ⟨fin,hp2.bel⟩
theorem fp2Mul {G:World→Prop} (K:FpK G) (x y:F2) (w:World) (hg:G w):Calls Tryz.prog 97 #[PV x,PV y] w (Ret (PV (x*y)) w):=by
 obtain ⟨n1,o1⟩:=nm (x.c0*y.c0)
 obtain ⟨n2,o2⟩:=nm (x.c1*y.c1)
 obtain ⟨n3,o3⟩:=nm (x.c0+x.c1)
 obtain ⟨n4,o4⟩:=nm (y.c0+y.c1)
 obtain ⟨n5,o5⟩:=nm (n3*n4)
 obtain ⟨n6,o6⟩:=nm (n1-n2)
 obtain ⟨n7,o7⟩:=nm (n5-n1)
 obtain ⟨n8,o8⟩:=nm (n7-n2)
 have fin:Ending.returned (PV ⟨n6,n8⟩)=Ending.returned (PV (x*y)):=by subst_vars;exact congrArg (fun z=>Ending.returned (PV z)) (F2.ext' (by simp) (by simp;grind))
 have hp0:=Heap.start w
 go_enter Tryz.func97,Tryz.ntmps97
 refine sgs [.alloc (PC x),.alloc (PC y),.alloc (PC 0)] [0,1,2] [0,0,0] (fun L=>[PV x,PV y,L.p 0,L.p 1,L.p 2]++U 33) (fun L=>[(L.b 0,PC x),(L.b 1,PC y),(L.b 2,PC 0)]) hp0 ⟨
  oB,oB,oZ rP,
  trivial⟩ (fun L0 w1 hp1=>?_)
 refine sdrD [.det (L0.p 0),.det (FV x.c0),.det (L0.p 1),.det (FV y.c0),.det (FV n1),.det (pt (L0.b 0) 6),.det (FV x.c1),.det (pt (L0.b 1) 6),.det (FV y.c1),.det (FV n2),.alloc (FC 0),.alloc (FC 0),.store (.new 10) 0 (FC n1) (FC n1),.store (.new 11) 0 (FC n2) (FC n2)] (nn 14) [0,1,0,4,15,0,32,0,128,511,0,0,4095,8191] (fun L d=>D d 0 2++([L0.p 0,L0.p 1,L0.p 2,L.p 10,L.p 11]++D d 7 31)) (fun L=>[(L0.b 0,PC x),(L0.b 1,PC y),(L0.b 2,PC 0),(L.b 10,FC n1),(L.b 11,FC n2)]) hp1 ⟨
  oI aP,oL 0 0 rF,oI aP,oL 1 0 rF,oC K.stay hg (nF o1 (K.mul x.c0 y.c0)),oI aP,oL 0 6 rF,oI aP,oL 1 6 rF,oC K.stay hg (nF o2 (K.mul x.c1 y.c1)),oZ rF,
  oZ rF,oT rF,oT rF,
  trivial⟩ (fun L1 _ w2 hp2=>?_)
 refine sdrD [.det (L0.p 0),.det (FV x.c0),.det (pt (L0.b 0) 6),.det (FV x.c1),.det (FV n3),.det (L0.p 1),.det (FV y.c0),.det (pt (L0.b 1) 6),.det (FV y.c1),.det (FV n4),.det (FV n5),.alloc (FC 0),.store (.new 11) 0 (FC n5) (FC n5)] (nn 13) [0,1,0,4,15,0,32,0,128,511,1023,0,4095] (fun L d=>D d 0 4++([L0.p 2,L1.p 10,L1.p 11,L.p 11]++D d 8 30)) (fun L=>[(L0.b 0,PC x),(L0.b 1,PC y),(L0.b 2,PC 0),(L1.b 10,FC n1),(L1.b 11,FC n2),(L.b 11,FC n5)]) hp2 ⟨
  oI aP,oL 0 0 rF,oI aP,oL 0 6 rF,oC K.stay hg (nF o3 (K.add x.c0 x.c1)),oI aP,oL 1 0 rF,oI aP,oL 1 6 rF,oC K.stay hg (nF o4 (K.add y.c0 y.c1)),oC K.stay hg (nF o5 (K.mul n3 n4)),
  oZ rF,oT rF,
  trivial⟩ (fun L2 _ w3 hp3=>?_)
 refine sdrD [.det (FV n1),.det (FV n2),.det (FV n6),.det (FV n5),.det (FV n1),.det (FV n7),.det (FV n2),.det (FV n8),.det (PV ⟨n6,n8⟩),.store (.base 2) 0 (PC ⟨n6,n8⟩) (PC ⟨n6,n8⟩)] (nn 10) [0,0,3,0,0,31,0,127,255,511] (fun L d=>D d 0 4++([L0.p 2]++D d 5 33)) (fun L=>[(L0.b 0,PC x),(L0.b 1,PC y),(L0.b 2,PC ⟨n6,n8⟩),(L1.b 10,FC n1),(L1.b 11,FC n2),(L2.b 11,FC n5)]) hp3 ⟨
  oL 3 0 rF,oL 4 0 rF,oC K.stay hg (nF o6 (K.sub n1 n2)),oL 5 0 rF,oL 3 0 rF,oC K.stay hg (nF o7 (K.sub n5 n1)),oL 4 0 rF,oC K.stay hg (nF o8 (K.sub n7 n2)),
  oD (buildP n6 n8),oT rP,
  trivial⟩ (fun L3 _ w4 hp4=>?_)
 refine wp_ret ?_
 refine bodyPost_ret (v:=PV ⟨n6,n8⟩) ?_ rfl ?_
 ·exact rc rP rfl (by kernel_rfl) (hp4.bound 2 rfl).2
 ·exact ⟨fin,hp4.bel⟩
theorem fp2Conj {G:World→Prop} (K:FpK G) (x:F2) (w:World) (hg:G w):Calls Tryz.prog 161 #[PV x] w (Ret (PV x.conj) w):=by
 obtain ⟨n1,o1⟩:=nm (-x.c1)
 have fin:Ending.returned (PV ⟨x.c0,n1⟩)=Ending.returned (PV x.conj):=by subst_vars;exact rfl
 have hp0:=Heap.start w
 go_enter Tryz.func161,Tryz.ntmps161
 refine sgs [.alloc (PC x),.alloc (PC 0)] [0,1] [0,0] (fun L=>[PV x,L.p 0,L.p 1]++U 6) (fun L=>[(L.b 0,PC x),(L.b 1,PC 0)]) hp0 ⟨
  oB,oZ rP,
  trivial⟩ (fun L0 w1 hp1=>?_)
 refine sdrD [.det (L0.p 0),.det (FV x.c0),.det (pt (L0.b 0) 6),.det (FV x.c1),.det (FV n1),.det (PV ⟨x.c0,n1⟩),.store (.base 1) 0 (PC ⟨x.c0,n1⟩) (PC ⟨x.c0,n1⟩)] (nn 7) [0,1,0,4,12,31,63] (fun L d=>D d 0 2++([L0.p 1]++D d 3 6)) (fun L=>[(L0.b 0,PC x),(L0.b 1,PC ⟨x.c0,n1⟩)]) hp1 ⟨
  oI aP,oL 0 0 rF,oI aP,oL 0 6 rF,oC K.stay hg (nF o1 (K.neg x.c1)),oD (buildP x.c0 n1),oT rP,
  trivial⟩ (fun L1 _ w2 hp2=>?_)
 refine wp_ret ?_
 refine bodyPost_ret (v:=PV ⟨x.c0,n1⟩) ?_ rfl ?_
 ·exact rc rP rfl (by kernel_rfl) (hp2.bound 1 rfl).2
 ·exact ⟨fin,hp2.bel⟩
theorem fp2norm {G:World→Prop} (K:FpK G) (x:F2) (w:World) (hg:G w):Calls Tryz.prog 159 #[PV x] w (Ret (FV x.norm) w):=by
 obtain ⟨n1,o1⟩:=nm (x.c0*x.c0)
 obtain ⟨n2,o2⟩:=nm (x.c1*x.c1)
 obtain ⟨n3,o3⟩:=nm (n1+n2)
 have fin:Ending.returned (FV n3)=Ending.returned (FV x.norm):=by subst_vars;exact rfl
 have hp0:=Heap.start w
 go_enter Tryz.func159,Tryz.ntmps159
 refine sgs [.alloc (PC x),.alloc (FC 0)] [0,1] [0,0] (fun L=>[PV x,L.p 0,L.p 1]++U 11) (fun L=>[(L.b 0,PC x),(L.b 1,FC 0)]) hp0 ⟨
  oB,oZ rF,
  trivial⟩ (fun L0 w1 hp1=>?_)
 refine sdrD [.det (L0.p 0),.det (FV x.c0),.det (L0.p 0),.det (FV x.c0),.det (FV n1),.det (pt (L0.b 0) 6),.det (FV x.c1),.det (pt (L0.b 0) 6),.det (FV x.c1),.det (FV n2),.det (FV n3),.store (.base 1) 0 (FC n3) (FC n3)] (nn 12) [0,1,0,4,15,0,32,0,128,511,1023,2047] (fun L d=>D d 0 2++([L0.p 1]++D d 3 11)) (fun L=>[(L0.b 0,PC x),(L0.b 1,FC n3)]) hp1 ⟨
  oI aP,oL 0 0 rF,oI aP,oL 0 0 rF,oC K.stay hg (nF o1 (K.mul x.c0 x.c0)),oI aP,oL 0 6 rF,oI aP,oL 0 6 rF,oC K.stay hg (nF o2 (K.mul x.c1 x.c1)),oC K.stay hg (nF o3 (K.add n1 n2)),
  oT rF,
  trivial⟩ (fun L1 _ w2 hp2=>?_)
 refine wp_ret ?_
 refine bodyPost_ret (v:=FV n3) ?_ rfl ?_
 ·exact rc rF rfl (by kernel_rfl) (hp2.bound 1 rfl).2
 ·exact ⟨fin,hp2.bel⟩
theorem fp2scale {G:World→Prop} (K:FpK G) (x:F2) (k:F) (w:World) (hg:G w):Calls Tryz.prog 160 #[PV x,FV k] w (Ret (PV ⟨x.c0*k,x.c1*k⟩) w):=by
 obtain ⟨n1,o1⟩:=nm (x.c0*k)
 obtain ⟨n2,o2⟩:=nm (x.c1*k)
 have fin:Ending.returned (PV ⟨n1,n2⟩)=Ending.returned (PV ⟨x.c0*k,x.c1*k⟩):=by subst_vars;exact rfl
 have hp0:=Heap.start w
 go_enter Tryz.func160,Tryz.ntmps160
 refine sgs [.alloc (PC x),.alloc (FC k),.alloc (PC 0)] [0,1,2] [0,0,0] (fun L=>[PV x,FV k,L.p 0,L.p 1,L.p 2]++U 9) (fun L=>[(L.b 0,PC x),(L.b 1,FC k),(L.b 2,PC 0)]) hp0 ⟨
  oB,oB,oZ rP,
  trivial⟩ (fun L0 w1 hp1=>?_)
 refine sdrD [.det (L0.p 0),.det (FV x.c0),.det (FV k),.det (FV n1),.det (pt (L0.b 0) 6),.det (FV x.c1),.det (FV k),.det (FV n2),.det (PV ⟨n1,n2⟩),.store (.base 2) 0 (PC ⟨n1,n2⟩) (PC ⟨n1,n2⟩)] (nn 10) [0,1,0,7,0,16,0,127,255,511] (fun L d=>D d 0 4++([L0.p 2]++D d 5 9)) (fun L=>[(L0.b 0,PC x),(L0.b 1,FC k),(L0.b 2,PC ⟨n1,n2⟩)]) hp1 ⟨
  oI aP,oL 0 0 rF,oL 1 0 rF,oC K.stay hg (nF o1 (K.mul x.c0 k)),oI aP,oL 0 6 rF,oL 1 0 rF,oC K.stay hg (nF o2 (K.mul x.c1 k)),oD (buildP n1 n2),oT rP,
  trivial⟩ (fun L1 _ w2 hp2=>?_)
 refine wp_ret ?_
 refine bodyPost_ret (v:=PV ⟨n1,n2⟩) ?_ rfl ?_
 ·exact rc rP rfl (by kernel_rfl) (hp2.bound 2 rfl).2
 ·exact ⟨fin,hp2.bel⟩
theorem fp2Inv {G:World→Prop} (K:FpK G) (x:F2) (w:World) (hg:G w) (hn:x.norm≠0):Calls Tryz.prog 147 #[PV x] w (Ret (.tuple #[PV x.inv,.int .i64 0]) w):=by
 have hp0:=Heap.start w
 go_enter Tryz.func147,Tryz.ntmps147
 refine sgsD [.alloc (PC x),.alloc (PC 0),.det (.int .i64 0)] [0,1,2] [0,0,0] (fun L d=>[d 0,L.p 0,L.p 1]++D d 3 17) (fun L=>[(L.b 0,PC x),(L.b 1,PC 0)]) hp0 ⟨
  oB,oZ rP,oA,
  trivial⟩ (fun L0 _ w1 hp1=>?_)
 refine sgsD [.det (PV x),.det (FV x.norm),.det (.tuple #[FV (finv x.norm),.int .i64 0]),.det (.tuple #[FV (finv x.norm),.int .i64 0]),.det (FV (finv x.norm)),.det (.int .i64 0),.alloc (FC 0),.store (.new 6) 0 (FC (finv x.norm)) (FC (finv x.norm)),.det (.int .i64 0)] (nn 9) [0,1,3,7,15,15,0,95,255] (fun L d=>[d 0,L0.p 0,L0.p 1,d 3,L.p 6,.int .i64 0]++D d 6 14) (fun L=>[(L0.b 0,PC x),(L0.b 1,PC 0),(L.b 6,FC (finv x.norm))]) hp1 ⟨
  oL 0 0 rP,oC K.stay hg (fp2norm K x),oH (v:=.tuple #[FV (finv x.norm),.int .i64 0]) (vs:=#[FV x.norm]) (fun w hb _=>K.inv _ w (K.stay hg hb) hn),oM,
  oX,oX,oZ rF,oT rF,oA,
  trivial⟩ (fun L1 _ w2 hp2=>?_)
 refine wp_seq_k (fun K3 k3=>?_)
 refine sgsD [.det (.int .i64 0),.det (.bool false)] [0,1] [0,1] (fun L d=>[d 0,L0.p 0,L0.p 1,d 3,L1.p 6]++(D d 5 8++([.bool false]++D d 14 6))) (fun L=>[(L0.b 0,PC x),(L0.b 1,PC 0),(L1.b 6,FC (finv x.norm))]) hp2 ⟨
  oM,oJ .i64 .i64 0 0 (h:=fun w=>(neqI _ _ _ _ w).trans rfl),
  trivial⟩ (fun L2 _ w3 hp3=>?_)
 refine cfk (k3 _ _ ?_)
 refine sdrD [.det (PV x),.det (PV x.conj),.det (FV (finv x.norm)),.det (PV ⟨x.conj.c0*(finv x.norm),x.conj.c1*(finv x.norm)⟩),.store (.base 1) 0 (PC ⟨x.conj.c0*(finv x.norm),x.conj.c1*(finv x.norm)⟩) (PC ⟨x.conj.c0*(finv x.norm),x.conj.c1*(finv x.norm)⟩),.det (.int .i64 0)] (nn 6) [0,1,0,7,15,31] (fun L d=>D d 0 2++([L0.p 1,.int .i64 0]++D d 4 16)) (fun L=>[(L0.b 0,PC x),(L0.b 1,PC ⟨x.conj.c0*(finv x.norm),x.conj.c1*(finv x.norm)⟩),(L1.b 6,FC (finv x.norm))]) hp3 ⟨
  oL 0 0 rP,oC K.stay hg (fp2Conj K x),oL 2 0 rF,oC K.stay hg (fp2scale K x.conj (finv x.norm)),oT rP,oA,
  trivial⟩ (fun L3 _ w4 hp4=>?_)
 refine wp_ret ?_
 refine bodyPost_ret (v:=.tuple #[PV ⟨x.conj.c0*(finv x.norm),x.conj.c1*(finv x.norm)⟩,.int .i64 0]) ?_ rfl ?_
 ·exact rct rP rfl (by kernel_rfl) (by kernel_rfl) (hp4.bound 1 rfl).2
 ·exact ⟨rfl,hp4.bel⟩
theorem fp2May {G:World→Prop} (K:FpK G) (f g:Nat→Int) (w:World) (hg:G w) (rf:Rg f 6) (rg:Rg g 6) (lf:val f 6<RI) (lg:val g 6<RI):Calls Tryz.prog 122 #[QV2 f g] w (Ret (.bool true) w):=by
 have hp0:=Heap.start w
 go_enter Tryz.func122,Tryz.ntmps122
 refine sgsD [.alloc (QC2 f g),.det (.bool false)] [0,1] [0,0] (fun L d=>[d 0,L.p 0]++D d 2 9) (fun L=>[(L.b 0,QC2 f g)]) hp0 ⟨
  oB,oA,
  trivial⟩ (fun L0 _ w1 hp1=>?_)
 refine sgsD [.det (L0.p 0),.det (QV f),.det (.bool true),.det (.bool true),.det (pt (L0.b 0) 6),.det (QV g),.det (.bool true),.det (.bool true),.det (.bool true)] (nn 9) [0,1,3,7,15,31,63,127,255] (fun L d=>D d 0 2++([.bool true]++D d 3 8)) (fun L=>[(L0.b 0,QC2 f g)]) hp1 ⟨
  oI aP,oL 0 0 rF,oH (v:=.bool true) (vs:=#[QV f]) (fun w hb _=>by have h:=K.may f w (K.stay hg hb) rf;rw [decide_eq_true lf] at h;exact h),oM,oI aP,
  oL 0 6 rF,oH (v:=.bool true) (vs:=#[QV g]) (fun w hb _=>by have h:=K.may g w (K.stay hg hb) rg;rw [decide_eq_true lg] at h;exact h),oP,oA,
  trivial⟩ (fun L1 _ w2 hp2=>?_)
 refine wp_ret ?_
 refine bodyPost_ret (v:=.bool true) ?_ rfl ?_
 ·exact res_t rfl (by kernel_rfl) _
 ·exact ⟨rfl,hp2.bel⟩
end Go.Proofs.YthnfgmhehfombaaGreatDoor.fpn
/- Package fp2: roots. -/
namespace Go.Proofs.YthnfgmhehfombaaGreatDoor.fpn
open Go.RowKit Pl
def hf:F:=⟨(RN+1) / 2,by decide +kernel⟩
end Go.Proofs.YthnfgmhehfombaaGreatDoor.fpn
/- Threes of pairs: their cells, how they are held against each other and built. -/
namespace Go.Proofs.YthnfgmhehfombaaGreatDoor.fpn
open Go.RowKit Pl
def C6 (x:F6):List Value:=PC x.c0++PC x.c1++PC x.c2
def V6 (x:F6):Value:=.agg (C6 x).toArray
theorem C6_len (x:F6):(C6 x).length=36:=rfl
theorem C6_cut0 (x:F6):List.take 12 (C6 x)=PC x.c0:=rfl
theorem C6_spl0 (a:F2) (x:F6):Pl.splice (C6 x) 0 (PC a)=C6 ⟨a,x.c1,x.c2⟩:=rfl
theorem C6_cut1 (x:F6):List.take 12 (List.drop 12 (C6 x))=PC x.c1:=rfl
theorem C6_spl1 (a:F2) (x:F6):Pl.splice (C6 x) 12 (PC a)=C6 ⟨x.c0,a,x.c2⟩:=rfl
theorem C6_cut2 (x:F6):List.take 12 (List.drop 24 (C6 x))=PC x.c2:=rfl
theorem C6_spl2 (a:F2) (x:F6):Pl.splice (C6 x) 24 (PC a)=C6 ⟨x.c0,x.c1,a⟩:=rfl
theorem C6_eq (d:Nat) (x y:F6) (w:World):(Op.equalIn (d+4) 47 (V6 x) (V6 y)).run Tryz.prog w=.ok (decide (x=y)) w:=by
 have hE:∀ (a b:F2) (w:World),(Op.equalIn (d+3) 35 (.agg (PC a).toArray) (.agg (PC b).toArray)).run Tryz.prog w=.ok (decide (a=b)) w:=fun a b w=>eqP d a b w
 have hp0:∀ (x:F6) (w:World),(part 35 (C6 x).toArray 0).run Tryz.prog w=.ok (.agg (PC x.c0).toArray) w:=fun x w=>by
  simp [part,Sem.run_bind,Tryz.isAgg35,Tryz.sizeOf35,C6_cut0]
 have hp1:∀ (x:F6) (w:World),(part 35 (C6 x).toArray 12).run Tryz.prog w=.ok (.agg (PC x.c1).toArray) w:=fun x w=>by
  simp [part,Sem.run_bind,Tryz.isAgg35,Tryz.sizeOf35,C6_cut1]
 have hp2:∀ (x:F6) (w:World),(part 35 (C6 x).toArray 24).run Tryz.prog w=.ok (.agg (PC x.c2).toArray) w:=fun x w=>by
  simp [part,Sem.run_bind,Tryz.isAgg35,Tryz.sizeOf35,C6_cut2]
 unfold V6
 rw [show d+4=(d+3)+1 from rfl,Op.equalIn.eq_def]
 simp only [Sem.run_bind,run_underlying Tryz.underlying47,Result.andThen_ok]
 simp only [Std.Legacy.Range.forIn_eq_forIn_range',Std.Legacy.Range.size,Nat.sub_zero,Nat.add_sub_cancel,Nat.div_one,List.range'_succ,List.range'_zero,List.forIn_cons,List.forIn_nil]
 simp only [Sem.run_bind,Tryz.sizeOf35,Result.andThen_ok,Nat.zero_mul,Nat.reduceAdd,Nat.reduceMul,Nat.one_mul,hp0,hp1,hp2,hE]
 by_cases h0:x.c0=y.c0
 ·by_cases h1:x.c1=y.c1
  ·by_cases h2:x.c2=y.c2
   ·have:x=y:=F6.ext' h0 h1 h2
    simp [h0,h1,h2,this,hp0,hp1,hp2,hE]
   ·have:x≠y:=fun e=>h2 (by rw [e])
    simp [h0,h1,h2,this,hp0,hp1,hp2,hE]
  ·have:x≠y:=fun e=>h1 (by rw [e])
   simp [h0,h1,this,hp0,hp1,hp2,hE]
 ·have:x≠y:=fun e=>h0 (by rw [e])
  simp [h0,this,hp0,hp1,hp2,hE]
theorem C6_grd (op:BinOp) (x y:Operand) (a b:F6) (w:World):(eqGuard op 47 x y (V6 a) (V6 b)).run Tryz.prog w=.ok () w:=by
 have h:Tryz.prog.eqGuardType Tryz.prog.depth 47=false:=by kernel_rfl
 unfold eqGuard V6
 cases op<;>simp [Sem.run_bind,h]
theorem C6_eql (a b:F6) (w:World):(binOp .eql 47 (V6 a) (V6 b)).run Tryz.prog w=.ok (.bool (decide (a=b))) w:=by
 have:=C6_eq 9996 a b w
 unfold V6 at *
 simp [binOp,Sem.run_bind,Op.equal,Op.maxDepth,this]
theorem C6_neq (a b:F6) (w:World):(binOp .neq 47 (V6 a) (V6 b)).run Tryz.prog w=.ok (.bool (!decide (a=b))) w:=by
 have:=C6_eq 9996 a b w
 unfold V6 at *
 simp [binOp,Sem.run_bind,Op.equal,Op.maxDepth,this]
theorem C6_zero:(Tryz.prog.info? 47).bind (·.zero)=some (.agg (C6 0).toArray):=by kernel_rfl
theorem C6_size:(Tryz.prog.info? 47).map (·.size)=some 36:=by kernel_rfl
theorem r6:RowT Tryz.prog 47 36 (C6 0):=⟨⟨_,Tryz.underlying47,rfl⟩,C6_size,C6_zero⟩
theorem a6:ArrT Tryz.prog 47 3 12:=⟨⟨_,Tryz.underlying47,sizeP⟩⟩
theorem q6:EqT Tryz.prog 47 V6:=⟨fun _ _ _ _ _ w=>C6_grd _ _ _ _ _ w,C6_eql,C6_neq⟩
theorem vP:ArrV Tryz.prog 35 2 6:=⟨⟨_,Tryz.underlying35,fun w=>Tryz.isAgg30 w,fun w=>Tryz.sizeOf30 w⟩⟩
theorem v6:ArrV Tryz.prog 47 3 12:=⟨⟨_,Tryz.underlying47,fun w=>Tryz.isAgg35 w,fun w=>Tryz.sizeOf35 w⟩⟩
theorem build6n (w:World):(Instr.build 47 #[]).run Tryz.prog w=.ok (V6 0) w :=
 run_build_array (cs:=C6 0) Tryz.underlying47 sizeP C6_zero rfl w
theorem build60 (a:F2) (w:World):(Instr.build 47 #[(0,PV a)]).run Tryz.prog w=.ok (V6 ⟨a,0,0⟩) w :=
 run_build_array (cs:=C6 ⟨a,0,0⟩) Tryz.underlying47 sizeP C6_zero (by
  show Instr.fill _ (C6 0).toArray [(0,.agg (PC a).toArray)]=_
  rw [fill_cons (off:=0) (sz:=12) rfl (PC_len a) (by rw [C6_len];omega),C6_spl0];rfl) w
theorem build6012 (a b c:F2) (w:World):(Instr.build 47 #[(0,PV a),(1,PV b),(2,PV c)]).run Tryz.prog w=.ok (V6 ⟨a,b,c⟩) w :=
 run_build_array (cs:=C6 ⟨a,b,c⟩) Tryz.underlying47 sizeP C6_zero (by
  show Instr.fill _ (C6 0).toArray [(0,.agg (PC a).toArray),(1,.agg (PC b).toArray),(2,.agg (PC c).toArray)]=_
  rw [fill_cons (off:=0) (sz:=12) rfl (PC_len a) (by rw [C6_len];omega),C6_spl0,fill_cons (off:=12) (sz:=12) rfl (PC_len b) (by rw [C6_len];omega),C6_spl1,fill_cons (off:=24) (sz:=12) rfl (PC_len c) (by rw [C6_len];omega),C6_spl2];rfl) w
def QC6 (f g f2 g2 f3 g3:Nat→Int):List Value:=QC2 f g++QC2 f2 g2++QC2 f3 g3
def QV6 (f g f2 g2 f3 g3:Nat→Int):Value:=.agg (QC6 f g f2 g2 f3 g3).toArray
structure P5 where
 c0:F2
 c1:F2
 c2:F2
 c3:F2
 c4:F2
instance : OfNat P5 0 := ⟨⟨0, 0, 0, 0, 0⟩⟩
def C5 (x:P5):List Value:=PC x.c0++PC x.c1++PC x.c2++PC x.c3++PC x.c4
theorem C5_zero:(Tryz.prog.info? 115).bind (·.zero)=some (.agg (C5 0).toArray):=by kernel_rfl
theorem C5_size:(Tryz.prog.info? 115).map (·.size)=some 60:=by kernel_rfl
theorem r5:RowT Tryz.prog 115 60 (C5 0):=⟨⟨_,Tryz.underlying115,rfl⟩,C5_size,C5_zero⟩
theorem a5:ArrT Tryz.prog 115 5 12:=⟨⟨_,Tryz.underlying115,sizeP⟩⟩
end Go.Proofs.YthnfgmhehfombaaGreatDoor.fpn
/- Package fp6. -/
namespace Go.Proofs.YthnfgmhehfombaaGreatDoor.fpn
open Go.RowKit Pl
section
open Rn
variable {α:Type} [Add α] [Mul α] [Neg α] [Sub α] [OfNat α 0] [OfNat α 1] [CR α]
theorem rs0 (a0 a1 a2 b0 b1 b2 k:α):((a0*b0)+(((((a1+a2)*(b1+b2))-(a1*b1))-(a2*b2))*k))=((a0*b0)+(k*((a1*b2)+(a2*b1)))):=ring [a0,a1,a2,b0,b1,b2,k] (.a (.m (.v 0) (.v 3)) (.m (.s (.s (.m (.a (.v 1) (.v 2)) (.a (.v 4) (.v 5))) (.m (.v 1) (.v 4))) (.m (.v 2) (.v 5))) (.v 6))) (.a (.m (.v 0) (.v 3)) (.m (.v 6) (.a (.m (.v 1) (.v 5)) (.m (.v 2) (.v 4))))) (by kernel_rfl)
theorem rs1 (a0 a1 a2 b0 b1 b2 k:α):(((((a0+a1)*(b0+b1))-(a0*b0))-(a1*b1))+((a2*b2)*k))=(((a0*b1)+(a1*b0))+(k*(a2*b2))):=ring [a0,a1,a2,b0,b1,b2,k] (.a (.s (.s (.m (.a (.v 0) (.v 1)) (.a (.v 3) (.v 4))) (.m (.v 0) (.v 3))) (.m (.v 1) (.v 4))) (.m (.m (.v 2) (.v 5)) (.v 6))) (.a (.a (.m (.v 0) (.v 4)) (.m (.v 1) (.v 3))) (.m (.v 6) (.m (.v 2) (.v 5)))) (by kernel_rfl)
theorem rs2 (a0 a1 a2 b0 b1 b2:α):(((((a0+a2)*(b0+b2))-(a0*b0))-(a2*b2))+(a1*b1))=(((a0*b2)+(a1*b1))+(a2*b0)):=ring [a0,a1,a2,b0,b1,b2] (.a (.s (.s (.m (.a (.v 0) (.v 2)) (.a (.v 3) (.v 5))) (.m (.v 0) (.v 3))) (.m (.v 2) (.v 5))) (.m (.v 1) (.v 4))) (.a (.a (.m (.v 0) (.v 5)) (.m (.v 1) (.v 4))) (.m (.v 2) (.v 3))) (by kernel_rfl)
theorem rs3 (a0 a1 a2 b0 b1 b2 k:α):((a0*b0)+(((a1*b2)+(a2*b1))*k))=((a0*b0)+(((a2*b1)+(a1*b2))*k)):=ring [a0,a1,a2,b0,b1,b2,k] (.a (.m (.v 0) (.v 3)) (.m (.a (.m (.v 1) (.v 5)) (.m (.v 2) (.v 4))) (.v 6))) (.a (.m (.v 0) (.v 3)) (.m (.a (.m (.v 2) (.v 4)) (.m (.v 1) (.v 5))) (.v 6))) (by kernel_rfl)
end
def may2 (f g:Nat→Int):Bool:=decide (val f 6<RI) && decide (val g 6<RI)
theorem fp6lift {G:World→Prop} (K:FpK G) (x:F2) (w:World) (hg:G w):Calls Tryz.prog 100 #[PV x] w (Ret (PV (x*xi)) w):=by
 have hp0:=Heap.start w
 go_enter Tryz.func100,Tryz.ntmps100
 refine sgs [.alloc (PC x),.alloc (PC 0)] [0,1] [0,0] (fun L=>[PV x,L.p 0,L.p 1]++U 8) (fun L=>[(L.b 0,PC x),(L.b 1,PC 0)]) hp0 ⟨
  oB,oZ rP,
  trivial⟩ (fun L0 w1 hp1=>?_)
 refine sdrD [.det (PV x),.det (PV x),.det (PV (-x)),.det (FV ((-x).c1)),.det (L0.p 0),.det (FV x.c0),.det (PV ⟨(-x).c1,x.c0⟩),.det (PV (x+⟨(-x).c1,x.c0⟩)),.store (.base 1) 0 (PC (x+⟨(-x).c1,x.c0⟩)) (PC (x+⟨(-x).c1,x.c0⟩))] (nn 9) [0,0,2,6,0,16,62,127,255] (fun L d=>D d 0 2++([L0.p 1]++D d 3 8)) (fun L=>[(L0.b 0,PC x),(L0.b 1,PC (x+⟨(-x).c1,x.c0⟩))]) hp1 ⟨
  oL 0 0 rP,oL 0 0 rP,oC K.stay hg (fp2Neg K x),oV (cs:=PC (-x)) 1 vP,oI aP,oL 0 0 rF,oD (buildP ((-x).c1) x.c0),oC K.stay hg (fp2Add K x ⟨(-x).c1,x.c0⟩),
  oT rP,
  trivial⟩ (fun L1 _ w2 hp2=>?_)
 refine wp_ret ?_
 refine bodyPost_ret (v:=PV (x+⟨(-x).c1,x.c0⟩)) ?_ rfl ?_
 ·exact rc rP rfl (by kernel_rfl) (hp2.bound 1 rfl).2
 ·exact ⟨congrArg (fun z=>Ending.returned (PV z)) (F2.ext' (by simp [xi];grind) (by simp [xi];grind)),hp2.bel⟩
theorem fp6crossed {G:World→Prop} (K:FpK G) (a b c d e f:F2) (w:World) (hg:G w):Calls Tryz.prog 98 #[PV a,PV b,PV c,PV d,PV e,PV f] w (Ret (PV ((a+b)*(c+d)-e-f)) w):=by
 have hp0:=Heap.start w
 go_enter Tryz.func98,Tryz.ntmps98
 refine sgsD [.alloc (PC a),.alloc (PC b),.alloc (PC c),.alloc (PC d),.alloc (PC e),.alloc (PC f),.alloc (PC 0)] (nn 7) [0,0,0,0,0,0,0] (fun L d=>D d 0 6++([L.p 0,L.p 1,L.p 2,L.p 3,L.p 4,L.p 5,L.p 6]++U 13)) (fun L=>[(L.b 0,PC a),(L.b 1,PC b),(L.b 2,PC c),(L.b 3,PC d),(L.b 4,PC e),(L.b 5,PC f),(L.b 6,PC 0)]) hp0 ⟨
  oB,oB,oB,oB,oB,oB,oZ rP,
  trivial⟩ (fun L0 _ w1 hp1=>?_)
 refine sdrD [.det (PV a),.det (PV b),.det (PV (a+b)),.det (PV c),.det (PV d),.det (PV (c+d)),.det (PV ((a+b)*(c+d))),.alloc (PC 0),.store (.new 7) 0 (PC ((a+b)*(c+d))) (PC ((a+b)*(c+d)))] (nn 9) [0,0,3,0,0,31,63,0,255] (fun L d=>D d 0 10++([L0.p 4,L0.p 5,L0.p 6,L.p 7]++D d 14 12)) (fun L=>[(L0.b 0,PC a),(L0.b 1,PC b),(L0.b 2,PC c),(L0.b 3,PC d),(L0.b 4,PC e),(L0.b 5,PC f),(L0.b 6,PC 0),(L.b 7,PC ((a+b)*(c+d)))]) hp1 ⟨
  oL 0 0 rP,oL 1 0 rP,oC K.stay hg (fp2Add K a b),oL 2 0 rP,oL 3 0 rP,oC K.stay hg (fp2Add K c d),oC K.stay hg (fp2Mul K (a+b) (c+d)),oZ rP,oT rP,
  trivial⟩ (fun L1 _ w2 hp2=>?_)
 refine sdrD [.det (PV ((a+b)*(c+d))),.det (PV e),.det (PV (((a+b)*(c+d))-e)),.det (PV f),.det (PV ((((a+b)*(c+d))-e)-f)),.store (.base 6) 0 (PC ((((a+b)*(c+d))-e)-f)) (PC ((((a+b)*(c+d))-e)-f))] (nn 6) [0,0,3,0,15,31] (fun L d=>D d 0 12++([L0.p 6]++D d 13 13)) (fun L=>[(L0.b 0,PC a),(L0.b 1,PC b),(L0.b 2,PC c),(L0.b 3,PC d),(L0.b 4,PC e),(L0.b 5,PC f),(L0.b 6,PC ((((a+b)*(c+d))-e)-f)),(L1.b 7,PC ((a+b)*(c+d)))]) hp2 ⟨
  oL 7 0 rP,oL 4 0 rP,oC K.stay hg (fp2Sub K ((a+b)*(c+d)) e),oL 5 0 rP,oC K.stay hg (fp2Sub K (((a+b)*(c+d))-e) f),oT rP,
  trivial⟩ (fun L2 _ w3 hp3=>?_)
 refine wp_ret ?_
 refine bodyPost_ret (v:=PV ((((a+b)*(c+d))-e)-f)) ?_ rfl ?_
 ·exact rc rP rfl (by kernel_rfl) (hp3.bound 6 rfl).2
 ·exact ⟨rfl,hp3.bel⟩
theorem fp6Add {G:World→Prop} (K:FpK G) (x y:F6) (w:World) (hg:G w):Calls Tryz.prog 64 #[V6 x,V6 y] w (Ret (V6 (x+y)) w):=by
 have hp0:=Heap.start w
 go_enter Tryz.func64,Tryz.ntmps64
 refine sgs [.alloc (C6 x),.alloc (C6 y),.alloc (C6 0)] [0,1,2] [0,0,0] (fun L=>[V6 x,V6 y,L.p 0,L.p 1,L.p 2]++U 16) (fun L=>[(L.b 0,C6 x),(L.b 1,C6 y),(L.b 2,C6 0)]) hp0 ⟨
  oB,oB,oZ r6,
  trivial⟩ (fun L0 w1 hp1=>?_)
 refine sdrD [.det (L0.p 0),.det (PV x.c0),.det (L0.p 1),.det (PV y.c0),.det (PV (x.c0+y.c0)),.det (pt (L0.b 0) 12),.det (PV x.c1),.det (pt (L0.b 1) 12),.det (PV y.c1),.det (PV (x.c1+y.c1)),.det (pt (L0.b 0) 24),.det (PV x.c2),.det (pt (L0.b 1) 24),.det (PV y.c2),.det (PV (x.c2+y.c2)),.det (V6 ⟨(x.c0+y.c0),(x.c1+y.c1),(x.c2+y.c2)⟩),.store (.base 2) 0 (C6 ⟨(x.c0+y.c0),(x.c1+y.c1),(x.c2+y.c2)⟩) (C6 ⟨(x.c0+y.c0),(x.c1+y.c1),(x.c2+y.c2)⟩)] (nn 17) [0,1,0,4,15,0,32,0,128,511,0,1024,0,4096,16383,32767,65535] (fun L d=>D d 0 4++([L0.p 2]++D d 5 16)) (fun L=>[(L0.b 0,C6 x),(L0.b 1,C6 y),(L0.b 2,C6 ⟨(x.c0+y.c0),(x.c1+y.c1),(x.c2+y.c2)⟩)]) hp1 ⟨
  oI a6,oL 0 0 rP,oI a6,oL 1 0 rP,oC K.stay hg (fp2Add K x.c0 y.c0),oI a6,oL 0 12 rP,oI a6,oL 1 12 rP,oC K.stay hg (fp2Add K x.c1 y.c1),oI a6,oL 0 24 rP,
  oI a6,oL 1 24 rP,oC K.stay hg (fp2Add K x.c2 y.c2),oD (build6012 (x.c0+y.c0) (x.c1+y.c1) (x.c2+y.c2)),oT r6,
  trivial⟩ (fun L1 _ w2 hp2=>?_)
 refine wp_ret ?_
 refine bodyPost_ret (v:=V6 ⟨(x.c0+y.c0),(x.c1+y.c1),(x.c2+y.c2)⟩) ?_ rfl ?_
 ·exact rc r6 rfl (by kernel_rfl) (hp2.bound 2 rfl).2
 ·exact ⟨rfl,hp2.bel⟩
theorem fp6Sub {G:World→Prop} (K:FpK G) (x y:F6) (w:World) (hg:G w):Calls Tryz.prog 66 #[V6 x,V6 y] w (Ret (V6 (x-y)) w):=by
 have hp0:=Heap.start w
 go_enter Tryz.func66,Tryz.ntmps66
 refine sgs [.alloc (C6 x),.alloc (C6 y),.alloc (C6 0)] [0,1,2] [0,0,0] (fun L=>[V6 x,V6 y,L.p 0,L.p 1,L.p 2]++U 16) (fun L=>[(L.b 0,C6 x),(L.b 1,C6 y),(L.b 2,C6 0)]) hp0 ⟨
  oB,oB,oZ r6,
  trivial⟩ (fun L0 w1 hp1=>?_)
 refine sdrD [.det (L0.p 0),.det (PV x.c0),.det (L0.p 1),.det (PV y.c0),.det (PV (x.c0-y.c0)),.det (pt (L0.b 0) 12),.det (PV x.c1),.det (pt (L0.b 1) 12),.det (PV y.c1),.det (PV (x.c1-y.c1)),.det (pt (L0.b 0) 24),.det (PV x.c2),.det (pt (L0.b 1) 24),.det (PV y.c2),.det (PV (x.c2-y.c2)),.det (V6 ⟨(x.c0-y.c0),(x.c1-y.c1),(x.c2-y.c2)⟩),.store (.base 2) 0 (C6 ⟨(x.c0-y.c0),(x.c1-y.c1),(x.c2-y.c2)⟩) (C6 ⟨(x.c0-y.c0),(x.c1-y.c1),(x.c2-y.c2)⟩)] (nn 17) [0,1,0,4,15,0,32,0,128,511,0,1024,0,4096,16383,32767,65535] (fun L d=>D d 0 4++([L0.p 2]++D d 5 16)) (fun L=>[(L0.b 0,C6 x),(L0.b 1,C6 y),(L0.b 2,C6 ⟨(x.c0-y.c0),(x.c1-y.c1),(x.c2-y.c2)⟩)]) hp1 ⟨
  oI a6,oL 0 0 rP,oI a6,oL 1 0 rP,oC K.stay hg (fp2Sub K x.c0 y.c0),oI a6,oL 0 12 rP,oI a6,oL 1 12 rP,oC K.stay hg (fp2Sub K x.c1 y.c1),oI a6,oL 0 24 rP,
  oI a6,oL 1 24 rP,oC K.stay hg (fp2Sub K x.c2 y.c2),oD (build6012 (x.c0-y.c0) (x.c1-y.c1) (x.c2-y.c2)),oT r6,
  trivial⟩ (fun L1 _ w2 hp2=>?_)
 refine wp_ret ?_
 refine bodyPost_ret (v:=V6 ⟨(x.c0-y.c0),(x.c1-y.c1),(x.c2-y.c2)⟩) ?_ rfl ?_
 ·exact rc r6 rfl (by kernel_rfl) (hp2.bound 2 rfl).2
 ·exact ⟨rfl,hp2.bel⟩
theorem fp6Neg {G:World→Prop} (K:FpK G) (x:F6) (w:World) (hg:G w):Calls Tryz.prog 134 #[V6 x] w (Ret (V6 (-x)) w):=by
 have hp0:=Heap.start w
 go_enter Tryz.func134,Tryz.ntmps134
 refine sgs [.alloc (C6 x),.alloc (C6 0)] [0,1] [0,0] (fun L=>[V6 x,L.p 0,L.p 1]++U 10) (fun L=>[(L.b 0,C6 x),(L.b 1,C6 0)]) hp0 ⟨
  oB,oZ r6,
  trivial⟩ (fun L0 w1 hp1=>?_)
 refine sdrD [.det (L0.p 0),.det (PV x.c0),.det (PV (-x.c0)),.det (pt (L0.b 0) 12),.det (PV x.c1),.det (PV (-x.c1)),.det (pt (L0.b 0) 24),.det (PV x.c2),.det (PV (-x.c2)),.det (V6 ⟨(-x.c0),(-x.c1),(-x.c2)⟩),.store (.base 1) 0 (C6 ⟨(-x.c0),(-x.c1),(-x.c2)⟩) (C6 ⟨(-x.c0),(-x.c1),(-x.c2)⟩)] (nn 11) [0,1,3,0,8,31,0,64,255,511,1023] (fun L d=>D d 0 2++([L0.p 1]++D d 3 10)) (fun L=>[(L0.b 0,C6 x),(L0.b 1,C6 ⟨(-x.c0),(-x.c1),(-x.c2)⟩)]) hp1 ⟨
  oI a6,oL 0 0 rP,oC K.stay hg (fp2Neg K x.c0),oI a6,oL 0 12 rP,oC K.stay hg (fp2Neg K x.c1),oI a6,oL 0 24 rP,oC K.stay hg (fp2Neg K x.c2),oD (build6012 (-x.c0) (-x.c1) (-x.c2)),
  oT r6,
  trivial⟩ (fun L1 _ w2 hp2=>?_)
 refine wp_ret ?_
 refine bodyPost_ret (v:=V6 ⟨(-x.c0),(-x.c1),(-x.c2)⟩) ?_ rfl ?_
 ·exact rc r6 rfl (by kernel_rfl) (hp2.bound 1 rfl).2
 ·exact ⟨rfl,hp2.bel⟩
theorem fp6Mul {G:World→Prop} (K:FpK G) (x y:F6) (w:World) (hg:G w):Calls Tryz.prog 63 #[V6 x,V6 y] w (Ret (V6 (x*y)) w):=by
 have hp0:=Heap.start w
 go_enter Tryz.func63,Tryz.ntmps63
 refine sgs [.alloc (C6 x),.alloc (C6 y),.alloc (C6 0)] [0,1,2] [0,0,0] (fun L=>[V6 x,V6 y,L.p 0,L.p 1,L.p 2]++U 66) (fun L=>[(L.b 0,C6 x),(L.b 1,C6 y),(L.b 2,C6 0)]) hp0 ⟨
  oB,oB,oZ r6,
  trivial⟩ (fun L0 w1 hp1=>?_)
 refine sdrD [.det (L0.p 0),.det (PV x.c0),.det (L0.p 1),.det (PV y.c0),.det (PV (x.c0*y.c0)),.det (pt (L0.b 0) 12),.det (PV x.c1),.det (pt (L0.b 1) 12),.det (PV y.c1),.det (PV (x.c1*y.c1)),.det (pt (L0.b 0) 24),.det (PV x.c2),.det (pt (L0.b 1) 24),.det (PV y.c2),.det (PV (x.c2*y.c2)),.alloc (PC 0),.alloc (PC 0),.alloc (PC 0),.store (.new 15) 0 (PC (x.c0*y.c0)) (PC (x.c0*y.c0)),.store (.new 16) 0 (PC (x.c1*y.c1)) (PC (x.c1*y.c1)),.store (.new 17) 0 (PC (x.c2*y.c2)) (PC (x.c2*y.c2))] (nn 21) [0,1,0,4,15,0,32,0,128,511,0,1024,0,4096,16383,0,0,0,262143,524287,1048575] (fun L d=>D d 0 2++([L0.p 0,L0.p 1,L0.p 2,L.p 15,L.p 16,L.p 17]++D d 8 63)) (fun L=>[(L0.b 0,C6 x),(L0.b 1,C6 y),(L0.b 2,C6 0),(L.b 15,PC (x.c0*y.c0)),(L.b 16,PC (x.c1*y.c1)),(L.b 17,PC (x.c2*y.c2))]) hp1 ⟨
  oI a6,oL 0 0 rP,oI a6,oL 1 0 rP,oC K.stay hg (fp2Mul K x.c0 y.c0),oI a6,oL 0 12 rP,oI a6,oL 1 12 rP,oC K.stay hg (fp2Mul K x.c1 y.c1),oI a6,oL 0 24 rP,
  oI a6,oL 1 24 rP,oC K.stay hg (fp2Mul K x.c2 y.c2),oZ rP,oZ rP,oZ rP,oT rP,oT rP,oT rP,
  trivial⟩ (fun L1 _ w2 hp2=>?_)
 refine sgsD [.det (L0.p 0),.det (PV x.c0),.det (pt (L0.b 0) 12),.det (PV x.c1),.det (L0.p 1),.det (PV y.c0),.det (pt (L0.b 1) 12),.det (PV y.c1),.det (PV (x.c0*y.c0)),.det (PV (x.c1*y.c1)),.det (PV ((x.c0+x.c1)*(y.c0+y.c1)-(x.c0*y.c0)-(x.c1*y.c1))),.alloc (PC 0),.store (.new 11) 0 (PC ((x.c0+x.c1)*(y.c0+y.c1)-(x.c0*y.c0)-(x.c1*y.c1))) (PC ((x.c0+x.c1)*(y.c0+y.c1)-(x.c0*y.c0)-(x.c1*y.c1)))] (nn 13) [0,1,0,4,0,16,0,64,0,0,1023,0,4095] (fun L d=>D d 0 2++([L0.p 0,L0.p 1,L0.p 2,L1.p 15,L1.p 16,L1.p 17,L.p 11]++D d 9 62)) (fun L=>[(L0.b 0,C6 x),(L0.b 1,C6 y),(L0.b 2,C6 0),(L1.b 15,PC (x.c0*y.c0)),(L1.b 16,PC (x.c1*y.c1)),(L1.b 17,PC (x.c2*y.c2)),(L.b 11,PC ((x.c0+x.c1)*(y.c0+y.c1)-(x.c0*y.c0)-(x.c1*y.c1)))]) hp2 ⟨
  oI a6,oL 0 0 rP,oI a6,oL 0 12 rP,oI a6,oL 1 0 rP,oI a6,oL 1 12 rP,oL 3 0 rP,oL 4 0 rP,oC K.stay hg (fp6crossed K x.c0 x.c1 y.c0 y.c1 (x.c0*y.c0) (x.c1*y.c1)),
  oZ rP,oT rP,
  trivial⟩ (fun L2 _ w3 hp3=>?_)
 refine sgsD [.det (L0.p 0),.det (PV x.c0),.det (pt (L0.b 0) 24),.det (PV x.c2),.det (L0.p 1),.det (PV y.c0),.det (pt (L0.b 1) 24),.det (PV y.c2),.det (PV (x.c0*y.c0)),.det (PV (x.c2*y.c2)),.det (PV ((x.c0+x.c2)*(y.c0+y.c2)-(x.c0*y.c0)-(x.c2*y.c2))),.alloc (PC 0),.store (.new 11) 0 (PC ((x.c0+x.c2)*(y.c0+y.c2)-(x.c0*y.c0)-(x.c2*y.c2))) (PC ((x.c0+x.c2)*(y.c0+y.c2)-(x.c0*y.c0)-(x.c2*y.c2)))] (nn 13) [0,1,0,4,0,16,0,64,0,0,1023,0,4095] (fun L d=>D d 0 2++([L0.p 0,L0.p 1,L0.p 2,L1.p 15,L1.p 16,L1.p 17,L2.p 11,L.p 11]++D d 10 61)) (fun L=>[(L0.b 0,C6 x),(L0.b 1,C6 y),(L0.b 2,C6 0),(L1.b 15,PC (x.c0*y.c0)),(L1.b 16,PC (x.c1*y.c1)),(L1.b 17,PC (x.c2*y.c2)),(L2.b 11,PC ((x.c0+x.c1)*(y.c0+y.c1)-(x.c0*y.c0)-(x.c1*y.c1))),(L.b 11,PC ((x.c0+x.c2)*(y.c0+y.c2)-(x.c0*y.c0)-(x.c2*y.c2)))]) hp3 ⟨
  oI a6,oL 0 0 rP,oI a6,oL 0 24 rP,oI a6,oL 1 0 rP,oI a6,oL 1 24 rP,oL 3 0 rP,oL 5 0 rP,oC K.stay hg (fp6crossed K x.c0 x.c2 y.c0 y.c2 (x.c0*y.c0) (x.c2*y.c2)),
  oZ rP,oT rP,
  trivial⟩ (fun L3 _ w4 hp4=>?_)
 refine sgsD [.det (pt (L0.b 0) 12),.det (PV x.c1),.det (pt (L0.b 0) 24),.det (PV x.c2),.det (pt (L0.b 1) 12),.det (PV y.c1),.det (pt (L0.b 1) 24),.det (PV y.c2),.det (PV (x.c1*y.c1)),.det (PV (x.c2*y.c2)),.det (PV ((x.c1+x.c2)*(y.c1+y.c2)-(x.c1*y.c1)-(x.c2*y.c2))),.alloc (PC 0),.store (.new 11) 0 (PC ((x.c1+x.c2)*(y.c1+y.c2)-(x.c1*y.c1)-(x.c2*y.c2))) (PC ((x.c1+x.c2)*(y.c1+y.c2)-(x.c1*y.c1)-(x.c2*y.c2)))] (nn 13) [0,1,0,4,0,16,0,64,0,0,1023,0,4095] (fun L d=>D d 0 4++([L0.p 2,L1.p 15,L1.p 16,L1.p 17,L2.p 11,L3.p 11,L.p 11]++D d 11 60)) (fun L=>[(L0.b 0,C6 x),(L0.b 1,C6 y),(L0.b 2,C6 0),(L1.b 15,PC (x.c0*y.c0)),(L1.b 16,PC (x.c1*y.c1)),(L1.b 17,PC (x.c2*y.c2)),(L2.b 11,PC ((x.c0+x.c1)*(y.c0+y.c1)-(x.c0*y.c0)-(x.c1*y.c1))),(L3.b 11,PC ((x.c0+x.c2)*(y.c0+y.c2)-(x.c0*y.c0)-(x.c2*y.c2))),(L.b 11,PC ((x.c1+x.c2)*(y.c1+y.c2)-(x.c1*y.c1)-(x.c2*y.c2)))]) hp4 ⟨
  oI a6,oL 0 12 rP,oI a6,oL 0 24 rP,oI a6,oL 1 12 rP,oI a6,oL 1 24 rP,oL 4 0 rP,oL 5 0 rP,oC K.stay hg (fp6crossed K x.c1 x.c2 y.c1 y.c2 (x.c1*y.c1) (x.c2*y.c2)),
  oZ rP,oT rP,
  trivial⟩ (fun L4 _ w5 hp5=>?_)
 refine sdrD [.det (PV (x.c0*y.c0)),.det (PV ((x.c1+x.c2)*(y.c1+y.c2)-(x.c1*y.c1)-(x.c2*y.c2))),.det (PV (((x.c1+x.c2)*(y.c1+y.c2)-(x.c1*y.c1)-(x.c2*y.c2))*xi)),.det (PV ((x.c0*y.c0)+(((x.c1+x.c2)*(y.c1+y.c2)-(x.c1*y.c1)-(x.c2*y.c2))*xi))),.det (PV ((x.c0+x.c1)*(y.c0+y.c1)-(x.c0*y.c0)-(x.c1*y.c1))),.det (PV (x.c2*y.c2)),.det (PV ((x.c2*y.c2)*xi)),.det (PV (((x.c0+x.c1)*(y.c0+y.c1)-(x.c0*y.c0)-(x.c1*y.c1))+((x.c2*y.c2)*xi))),.det (PV ((x.c0+x.c2)*(y.c0+y.c2)-(x.c0*y.c0)-(x.c2*y.c2))),.det (PV (x.c1*y.c1)),.det (PV (((x.c0+x.c2)*(y.c0+y.c2)-(x.c0*y.c0)-(x.c2*y.c2))+(x.c1*y.c1))),.det (V6 ⟨((x.c0*y.c0)+(((x.c1+x.c2)*(y.c1+y.c2)-(x.c1*y.c1)-(x.c2*y.c2))*xi)),(((x.c0+x.c1)*(y.c0+y.c1)-(x.c0*y.c0)-(x.c1*y.c1))+((x.c2*y.c2)*xi)),(((x.c0+x.c2)*(y.c0+y.c2)-(x.c0*y.c0)-(x.c2*y.c2))+(x.c1*y.c1))⟩),.store (.base 2) 0 (C6 ⟨((x.c0*y.c0)+(((x.c1+x.c2)*(y.c1+y.c2)-(x.c1*y.c1)-(x.c2*y.c2))*xi)),(((x.c0+x.c1)*(y.c0+y.c1)-(x.c0*y.c0)-(x.c1*y.c1))+((x.c2*y.c2)*xi)),(((x.c0+x.c2)*(y.c0+y.c2)-(x.c0*y.c0)-(x.c2*y.c2))+(x.c1*y.c1))⟩) (C6 ⟨((x.c0*y.c0)+(((x.c1+x.c2)*(y.c1+y.c2)-(x.c1*y.c1)-(x.c2*y.c2))*xi)),(((x.c0+x.c1)*(y.c0+y.c1)-(x.c0*y.c0)-(x.c1*y.c1))+((x.c2*y.c2)*xi)),(((x.c0+x.c2)*(y.c0+y.c2)-(x.c0*y.c0)-(x.c2*y.c2))+(x.c1*y.c1))⟩)] (nn 13) [0,0,2,7,0,0,47,127,0,0,1023,2047,4095] (fun L d=>D d 0 4++([L0.p 2]++D d 5 66)) (fun L=>[(L0.b 0,C6 x),(L0.b 1,C6 y),(L0.b 2,C6 ⟨((x.c0*y.c0)+(((x.c1+x.c2)*(y.c1+y.c2)-(x.c1*y.c1)-(x.c2*y.c2))*xi)),(((x.c0+x.c1)*(y.c0+y.c1)-(x.c0*y.c0)-(x.c1*y.c1))+((x.c2*y.c2)*xi)),(((x.c0+x.c2)*(y.c0+y.c2)-(x.c0*y.c0)-(x.c2*y.c2))+(x.c1*y.c1))⟩),(L1.b 15,PC (x.c0*y.c0)),(L1.b 16,PC (x.c1*y.c1)),(L1.b 17,PC (x.c2*y.c2)),(L2.b 11,PC ((x.c0+x.c1)*(y.c0+y.c1)-(x.c0*y.c0)-(x.c1*y.c1))),(L3.b 11,PC ((x.c0+x.c2)*(y.c0+y.c2)-(x.c0*y.c0)-(x.c2*y.c2))),(L4.b 11,PC ((x.c1+x.c2)*(y.c1+y.c2)-(x.c1*y.c1)-(x.c2*y.c2)))]) hp5 ⟨
  oL 3 0 rP,oL 8 0 rP,oC K.stay hg (fp6lift K ((x.c1+x.c2)*(y.c1+y.c2)-(x.c1*y.c1)-(x.c2*y.c2))),oC K.stay hg (fp2Add K (x.c0*y.c0) (((x.c1+x.c2)*(y.c1+y.c2)-(x.c1*y.c1)-(x.c2*y.c2))*xi)),
  oL 6 0 rP,oL 5 0 rP,oC K.stay hg (fp6lift K (x.c2*y.c2)),oC K.stay hg (fp2Add K ((x.c0+x.c1)*(y.c0+y.c1)-(x.c0*y.c0)-(x.c1*y.c1)) ((x.c2*y.c2)*xi)),
  oL 7 0 rP,oL 4 0 rP,oC K.stay hg (fp2Add K ((x.c0+x.c2)*(y.c0+y.c2)-(x.c0*y.c0)-(x.c2*y.c2)) (x.c1*y.c1)),oD (build6012 ((x.c0*y.c0)+(((x.c1+x.c2)*(y.c1+y.c2)-(x.c1*y.c1)-(x.c2*y.c2))*xi)) (((x.c0+x.c1)*(y.c0+y.c1)-(x.c0*y.c0)-(x.c1*y.c1))+((x.c2*y.c2)*xi)) (((x.c0+x.c2)*(y.c0+y.c2)-(x.c0*y.c0)-(x.c2*y.c2))+(x.c1*y.c1))),
  oT r6,
  trivial⟩ (fun L5 _ w6 hp6=>?_)
 refine wp_ret ?_
 refine bodyPost_ret (v:=V6 ⟨((x.c0*y.c0)+(((x.c1+x.c2)*(y.c1+y.c2)-(x.c1*y.c1)-(x.c2*y.c2))*xi)),(((x.c0+x.c1)*(y.c0+y.c1)-(x.c0*y.c0)-(x.c1*y.c1))+((x.c2*y.c2)*xi)),(((x.c0+x.c2)*(y.c0+y.c2)-(x.c0*y.c0)-(x.c2*y.c2))+(x.c1*y.c1))⟩) ?_ rfl ?_
 ·exact rc r6 rfl (by kernel_rfl) (hp6.bound 2 rfl).2
 ·exact ⟨congrArg (fun z=>Ending.returned (V6 z)) (F6.ext' (rs0 (x.c0) (x.c1) (x.c2) (y.c0) (y.c1) (y.c2) (xi)) (rs1 (x.c0) (x.c1) (x.c2) (y.c0) (y.c1) (y.c2) (xi)) (rs2 (x.c0) (x.c1) (x.c2) (y.c0) (y.c1) (y.c2))),hp6.bel⟩
theorem fp6Up {G:World→Prop} (K:FpK G) (x:F6) (w:World) (hg:G w):Calls Tryz.prog 65 #[V6 x] w (Ret (V6 x.up) w):=by
 have hp0:=Heap.start w
 go_enter Tryz.func65,Tryz.ntmps65
 refine sgs [.alloc (C6 x),.alloc (C6 0)] [0,1] [0,0] (fun L=>[V6 x,L.p 0,L.p 1]++U 8) (fun L=>[(L.b 0,C6 x),(L.b 1,C6 0)]) hp0 ⟨
  oB,oZ r6,
  trivial⟩ (fun L0 w1 hp1=>?_)
 refine sdrD [.det (pt (L0.b 0) 24),.det (PV x.c2),.det (PV (x.c2*xi)),.det (L0.p 0),.det (PV x.c0),.det (pt (L0.b 0) 12),.det (PV x.c1),.det (V6 ⟨(x.c2*xi),x.c0,x.c1⟩),.store (.base 1) 0 (C6 ⟨(x.c2*xi),x.c0,x.c1⟩) (C6 ⟨(x.c2*xi),x.c0,x.c1⟩)] (nn 9) [0,1,3,0,8,0,32,127,255] (fun L d=>D d 0 2++([L0.p 1]++D d 3 8)) (fun L=>[(L0.b 0,C6 x),(L0.b 1,C6 ⟨(x.c2*xi),x.c0,x.c1⟩)]) hp1 ⟨
  oI a6,oL 0 24 rP,oC K.stay hg (fp6lift K x.c2),oI a6,oL 0 0 rP,oI a6,oL 0 12 rP,oD (build6012 (x.c2*xi) x.c0 x.c1),oT r6,
  trivial⟩ (fun L1 _ w2 hp2=>?_)
 refine wp_ret ?_
 refine bodyPost_ret (v:=V6 ⟨(x.c2*xi),x.c0,x.c1⟩) ?_ rfl ?_
 ·exact rc r6 rfl (by kernel_rfl) (hp2.bound 1 rfl).2
 ·exact ⟨rfl,hp2.bel⟩
theorem fp6mate {G:World→Prop} (K:FpK G) (x:F6) (w:World) (hg:G w):Calls Tryz.prog 146 #[V6 x] w (Ret (V6 ⟨x.a0,x.a1,x.a2⟩) w):=by
 have hp0:=Heap.start w
 go_enter Tryz.func146,Tryz.ntmps146
 refine sgs [.alloc (C6 x),.alloc (C6 0)] [0,1] [0,0] (fun L=>[V6 x,L.p 0,L.p 1]++U 36) (fun L=>[(L.b 0,C6 x),(L.b 1,C6 0)]) hp0 ⟨
  oB,oZ r6,
  trivial⟩ (fun L0 w1 hp1=>?_)
 refine sdrD [.det (L0.p 0),.det (PV x.c0),.det (L0.p 0),.det (PV x.c0),.det (PV (x.c0*x.c0)),.det (pt (L0.b 0) 12),.det (PV x.c1),.det (pt (L0.b 0) 24),.det (PV x.c2),.det (PV (x.c1*x.c2)),.det (PV ((x.c1*x.c2)*xi)),.det (PV ((x.c0*x.c0)-((x.c1*x.c2)*xi))),.det (pt (L0.b 0) 24),.det (PV x.c2),.det (pt (L0.b 0) 24),.det (PV x.c2),.det (PV (x.c2*x.c2)),.det (PV ((x.c2*x.c2)*xi)),.det (L0.p 0),.det (PV x.c0),.det (pt (L0.b 0) 12),.det (PV x.c1),.det (PV (x.c0*x.c1)),.det (PV (((x.c2*x.c2)*xi)-(x.c0*x.c1))),.det (pt (L0.b 0) 12),.det (PV x.c1),.det (pt (L0.b 0) 12),.det (PV x.c1),.det (PV (x.c1*x.c1)),.det (L0.p 0),.det (PV x.c0),.det (pt (L0.b 0) 24),.det (PV x.c2),.det (PV (x.c0*x.c2)),.det (PV ((x.c1*x.c1)-(x.c0*x.c2))),.det (V6 ⟨((x.c0*x.c0)-((x.c1*x.c2)*xi)),(((x.c2*x.c2)*xi)-(x.c0*x.c1)),((x.c1*x.c1)-(x.c0*x.c2))⟩),.store (.base 1) 0 (C6 ⟨((x.c0*x.c0)-((x.c1*x.c2)*xi)),(((x.c2*x.c2)*xi)-(x.c0*x.c1)),((x.c1*x.c1)-(x.c0*x.c2))⟩) (C6 ⟨((x.c0*x.c0)-((x.c1*x.c2)*xi)),(((x.c2*x.c2)*xi)-(x.c0*x.c1)),((x.c1*x.c1)-(x.c0*x.c2))⟩)] (nn 37) [0,1,0,4,15,0,32,0,128,511,1023,2047,0,4096,0,16384,65535,131071,0,262144,0,1048576,4194303,8388607,0,16777216,0,67108864,268435455,0,536870912,0,2147483648,8589934591,17179869183,34359738367,68719476735] (fun L d=>D d 0 2++([L0.p 1]++D d 3 36)) (fun L=>[(L0.b 0,C6 x),(L0.b 1,C6 ⟨((x.c0*x.c0)-((x.c1*x.c2)*xi)),(((x.c2*x.c2)*xi)-(x.c0*x.c1)),((x.c1*x.c1)-(x.c0*x.c2))⟩)]) hp1 ⟨
  oI a6,oL 0 0 rP,oI a6,oL 0 0 rP,oC K.stay hg (fp2Mul K x.c0 x.c0),oI a6,oL 0 12 rP,oI a6,oL 0 24 rP,oC K.stay hg (fp2Mul K x.c1 x.c2),oC K.stay hg (fp6lift K (x.c1*x.c2)),
  oC K.stay hg (fp2Sub K (x.c0*x.c0) ((x.c1*x.c2)*xi)),oI a6,oL 0 24 rP,oI a6,oL 0 24 rP,oC K.stay hg (fp2Mul K x.c2 x.c2),oC K.stay hg (fp6lift K (x.c2*x.c2)),
  oI a6,oL 0 0 rP,oI a6,oL 0 12 rP,oC K.stay hg (fp2Mul K x.c0 x.c1),oC K.stay hg (fp2Sub K ((x.c2*x.c2)*xi) (x.c0*x.c1)),oI a6,oL 0 12 rP,oI a6,
  oL 0 12 rP,oC K.stay hg (fp2Mul K x.c1 x.c1),oI a6,oL 0 0 rP,oI a6,oL 0 24 rP,oC K.stay hg (fp2Mul K x.c0 x.c2),oC K.stay hg (fp2Sub K (x.c1*x.c1) (x.c0*x.c2)),
  oD (build6012 ((x.c0*x.c0)-((x.c1*x.c2)*xi)) (((x.c2*x.c2)*xi)-(x.c0*x.c1)) ((x.c1*x.c1)-(x.c0*x.c2))),oT r6,
  trivial⟩ (fun L1 _ w2 hp2=>?_)
 refine wp_ret ?_
 refine bodyPost_ret (v:=V6 ⟨((x.c0*x.c0)-((x.c1*x.c2)*xi)),(((x.c2*x.c2)*xi)-(x.c0*x.c1)),((x.c1*x.c1)-(x.c0*x.c2))⟩) ?_ rfl ?_
 ·exact rc r6 rfl (by kernel_rfl) (hp2.bound 1 rfl).2
 ·exact ⟨rfl,hp2.bel⟩
theorem fp6norm {G:World→Prop} (K:FpK G) (x:F6) (w:World) (hg:G w):Calls Tryz.prog 148 #[V6 x,V6 ⟨x.a0,x.a1,x.a2⟩] w (Ret (PV x.norm) w):=by
 have hp0:=Heap.start w
 go_enter Tryz.func148,Tryz.ntmps148
 refine sgsD [.alloc (C6 x),.alloc (C6 ⟨x.a0,x.a1,x.a2⟩),.alloc (PC 0)] [0,1,2] [0,0,0] (fun L d=>D d 0 2++([L.p 0,L.p 1,L.p 2]++U 20)) (fun L=>[(L.b 0,C6 x),(L.b 1,C6 ⟨x.a0,x.a1,x.a2⟩),(L.b 2,PC 0)]) hp0 ⟨
  oB,oB,oZ rP,
  trivial⟩ (fun L0 _ w1 hp1=>?_)
 refine sdrD [.det (pt (L0.b 0) 12),.det (PV x.c1),.det (pt (L0.b 1) 24),.det (PV x.a2),.det (PV (x.c1*x.a2)),.det (pt (L0.b 0) 24),.det (PV x.c2),.det (pt (L0.b 1) 12),.det (PV x.a1),.det (PV (x.c2*x.a1)),.det (PV ((x.c1*x.a2)+(x.c2*x.a1))),.alloc (PC 0),.store (.new 11) 0 (PC ((x.c1*x.a2)+(x.c2*x.a1))) (PC ((x.c1*x.a2)+(x.c2*x.a1)))] (nn 13) [0,1,0,4,15,0,32,0,128,511,1023,0,4095] (fun L d=>D d 0 2++([L0.p 0,L0.p 1,L0.p 2,L.p 11]++D d 6 19)) (fun L=>[(L0.b 0,C6 x),(L0.b 1,C6 ⟨x.a0,x.a1,x.a2⟩),(L0.b 2,PC 0),(L.b 11,PC ((x.c1*x.a2)+(x.c2*x.a1)))]) hp1 ⟨
  oI a6,oL 0 12 rP,oI a6,oL 1 24 rP,oC K.stay hg (fp2Mul K x.c1 x.a2),oI a6,oL 0 24 rP,oI a6,oL 1 12 rP,oC K.stay hg (fp2Mul K x.c2 x.a1),oC K.stay hg (fp2Add K (x.c1*x.a2) (x.c2*x.a1)),
  oZ rP,oT rP,
  trivial⟩ (fun L1 _ w2 hp2=>?_)
 refine sdrD [.det (L0.p 0),.det (PV x.c0),.det (L0.p 1),.det (PV x.a0),.det (PV (x.c0*x.a0)),.det (PV ((x.c1*x.a2)+(x.c2*x.a1))),.det (PV (((x.c1*x.a2)+(x.c2*x.a1))*xi)),.det (PV ((x.c0*x.a0)+(((x.c1*x.a2)+(x.c2*x.a1))*xi))),.store (.base 2) 0 (PC ((x.c0*x.a0)+(((x.c1*x.a2)+(x.c2*x.a1))*xi))) (PC ((x.c0*x.a0)+(((x.c1*x.a2)+(x.c2*x.a1))*xi)))] (nn 9) [0,1,0,4,15,0,63,127,255] (fun L d=>D d 0 4++([L0.p 2]++D d 5 20)) (fun L=>[(L0.b 0,C6 x),(L0.b 1,C6 ⟨x.a0,x.a1,x.a2⟩),(L0.b 2,PC ((x.c0*x.a0)+(((x.c1*x.a2)+(x.c2*x.a1))*xi))),(L1.b 11,PC ((x.c1*x.a2)+(x.c2*x.a1)))]) hp2 ⟨
  oI a6,oL 0 0 rP,oI a6,oL 1 0 rP,oC K.stay hg (fp2Mul K x.c0 x.a0),oL 3 0 rP,oC K.stay hg (fp6lift K ((x.c1*x.a2)+(x.c2*x.a1))),oC K.stay hg (fp2Add K (x.c0*x.a0) (((x.c1*x.a2)+(x.c2*x.a1))*xi)),
  oT rP,
  trivial⟩ (fun L2 _ w3 hp3=>?_)
 refine wp_ret ?_
 refine bodyPost_ret (v:=PV ((x.c0*x.a0)+(((x.c1*x.a2)+(x.c2*x.a1))*xi))) ?_ rfl ?_
 ·exact rc rP rfl (by kernel_rfl) (hp3.bound 2 rfl).2
 ·exact ⟨congrArg (fun z=>Ending.returned (PV z)) (rs3 (x.c0) (x.c1) (x.c2) (x.a0) (x.a1) (x.a2) (xi)),hp3.bel⟩
theorem fp6scale {G:World→Prop} (K:FpK G) (x:F6) (w:World) (hg:G w):Calls Tryz.prog 149 #[V6 ⟨x.a0,x.a1,x.a2⟩,PV x.norm.inv] w (Ret (V6 x.inv) w):=by
 have hp0:=Heap.start w
 go_enter Tryz.func149,Tryz.ntmps149
 refine sgsD [.alloc (C6 ⟨x.a0,x.a1,x.a2⟩),.alloc (PC x.norm.inv),.alloc (C6 0)] [0,1,2] [0,0,0] (fun L d=>D d 0 2++([L.p 0,L.p 1,L.p 2]++U 13)) (fun L=>[(L.b 0,C6 ⟨x.a0,x.a1,x.a2⟩),(L.b 1,PC x.norm.inv),(L.b 2,C6 0)]) hp0 ⟨
  oB,oB,oZ r6,
  trivial⟩ (fun L0 _ w1 hp1=>?_)
 refine sdrD [.det (L0.p 0),.det (PV x.a0),.det (PV x.norm.inv),.det (PV (x.a0*x.norm.inv)),.det (pt (L0.b 0) 12),.det (PV x.a1),.det (PV x.norm.inv),.det (PV (x.a1*x.norm.inv)),.det (pt (L0.b 0) 24),.det (PV x.a2),.det (PV x.norm.inv),.det (PV (x.a2*x.norm.inv)),.det (V6 ⟨(x.a0*x.norm.inv),(x.a1*x.norm.inv),(x.a2*x.norm.inv)⟩),.store (.base 2) 0 (C6 ⟨(x.a0*x.norm.inv),(x.a1*x.norm.inv),(x.a2*x.norm.inv)⟩) (C6 ⟨(x.a0*x.norm.inv),(x.a1*x.norm.inv),(x.a2*x.norm.inv)⟩)] (nn 14) [0,1,0,7,0,16,0,127,0,256,0,2047,4095,8191] (fun L d=>D d 0 4++([L0.p 2]++D d 5 13)) (fun L=>[(L0.b 0,C6 ⟨x.a0,x.a1,x.a2⟩),(L0.b 1,PC x.norm.inv),(L0.b 2,C6 ⟨(x.a0*x.norm.inv),(x.a1*x.norm.inv),(x.a2*x.norm.inv)⟩)]) hp1 ⟨
  oI a6,oL 0 0 rP,oL 1 0 rP,oC K.stay hg (fp2Mul K x.a0 x.norm.inv),oI a6,oL 0 12 rP,oL 1 0 rP,oC K.stay hg (fp2Mul K x.a1 x.norm.inv),oI a6,oL 0 24 rP,
  oL 1 0 rP,oC K.stay hg (fp2Mul K x.a2 x.norm.inv),oD (build6012 (x.a0*x.norm.inv) (x.a1*x.norm.inv) (x.a2*x.norm.inv)),oT r6,
  trivial⟩ (fun L1 _ w2 hp2=>?_)
 refine wp_ret ?_
 refine bodyPost_ret (v:=V6 ⟨(x.a0*x.norm.inv),(x.a1*x.norm.inv),(x.a2*x.norm.inv)⟩) ?_ rfl ?_
 ·exact rc r6 rfl (by kernel_rfl) (hp2.bound 2 rfl).2
 ·exact ⟨rfl,hp2.bel⟩
theorem fp6Inv {G:World→Prop} (K:FpK G) (x:F6) (w:World) (hg:G w) (hn:x.norm≠0):Calls Tryz.prog 129 #[V6 x] w (Ret (.tuple #[V6 x.inv,.int .i64 0]) w):=by
 have hp0:=Heap.start w
 go_enter Tryz.func129,Tryz.ntmps129
 refine sgsD [.alloc (C6 x),.alloc (C6 0),.det (.int .i64 0)] [0,1,2] [0,0,0] (fun L d=>[d 0,L.p 0,L.p 1]++D d 3 20) (fun L=>[(L.b 0,C6 x),(L.b 1,C6 0)]) hp0 ⟨
  oB,oZ r6,oA,
  trivial⟩ (fun L0 _ w1 hp1=>?_)
 refine sgsD [.det (V6 x),.det (V6 ⟨x.a0,x.a1,x.a2⟩),.alloc (C6 0),.store (.new 2) 0 (C6 ⟨x.a0,x.a1,x.a2⟩) (C6 ⟨x.a0,x.a1,x.a2⟩)] [0,1,2,3] [0,1,0,7] (fun L d=>[d 0,L0.p 0,L0.p 1,d 3,L.p 2]++D d 5 18) (fun L=>[(L0.b 0,C6 x),(L0.b 1,C6 0),(L.b 2,C6 ⟨x.a0,x.a1,x.a2⟩)]) hp1 ⟨
  oL 0 0 r6,oC K.stay hg (fp6mate K x),oZ r6,oT r6,
  trivial⟩ (fun L1 _ w2 hp2=>?_)
 refine sgsD [.det (V6 x),.det (V6 ⟨x.a0,x.a1,x.a2⟩),.det (PV x.norm),.det (.tuple #[PV x.norm.inv,.int .i64 0]),.det (.tuple #[PV x.norm.inv,.int .i64 0]),.det (PV x.norm.inv),.det (.int .i64 0),.alloc (PC 0),.store (.new 7) 0 (PC x.norm.inv) (PC x.norm.inv),.det (.int .i64 0)] (nn 10) [0,0,3,7,15,31,31,0,191,511] (fun L d=>D d 0 2++([L0.p 1,d 3,L1.p 2,L.p 7,.int .i64 0]++D d 7 16)) (fun L=>[(L0.b 0,C6 x),(L0.b 1,C6 0),(L1.b 2,C6 ⟨x.a0,x.a1,x.a2⟩),(L.b 7,PC x.norm.inv)]) hp2 ⟨
  oL 0 0 r6,oL 2 0 r6,oC K.stay hg (fp6norm K x),oH (v:=.tuple #[PV x.norm.inv,.int .i64 0]) (vs:=#[PV x.norm]) (fun w hb _=>fp2Inv K x.norm w (K.stay hg hb) (F2.norm_ne hn)),
  oM,oX,oX,oZ rP,oT rP,oA,
  trivial⟩ (fun L2 _ w3 hp3=>?_)
 refine wp_seq_k (fun K4 k4=>?_)
 refine sgsD [.det (.int .i64 0),.det (.bool false)] [0,1] [0,1] (fun L d=>D d 0 2++([L0.p 1,d 3,L1.p 2,L2.p 7]++(D d 6 11++([.bool false]++D d 18 5)))) (fun L=>[(L0.b 0,C6 x),(L0.b 1,C6 0),(L1.b 2,C6 ⟨x.a0,x.a1,x.a2⟩),(L2.b 7,PC x.norm.inv)]) hp3 ⟨
  oM,oJ .i64 .i64 0 0 (h:=fun w=>(neqI _ _ _ _ w).trans rfl),
  trivial⟩ (fun L3 _ w4 hp4=>?_)
 refine cfk (k4 _ _ ?_)
 refine sgsD [.det (V6 ⟨x.a0,x.a1,x.a2⟩),.det (PV x.norm.inv),.det (V6 x.inv),.store (.base 1) 0 (C6 x.inv) (C6 x.inv),.det (.int .i64 0)] (nn 5) [0,0,3,7,15] (fun L d=>D d 0 2++([L0.p 1,.int .i64 0]++D d 4 19)) (fun L=>[(L0.b 0,C6 x),(L0.b 1,C6 x.inv),(L1.b 2,C6 ⟨x.a0,x.a1,x.a2⟩),(L2.b 7,PC x.norm.inv)]) hp4 ⟨
  oL 2 0 r6,oL 3 0 rP,oC K.stay hg (fp6scale K x),oT r6,oA,
  trivial⟩ (fun L4 _ w5 hp5=>?_)
 refine wp_ret ?_
 refine bodyPost_ret (v:=.tuple #[V6 x.inv,.int .i64 0]) ?_ rfl ?_
 ·exact rct r6 rfl (by kernel_rfl) (by kernel_rfl) (hp5.bound 1 rfl).2
 ·exact ⟨rfl,hp5.bel⟩
theorem may2_num (a b:F):may2 (lb a.val) (lb b.val)=true:=by
 unfold may2
 rw [decide_eq_true (lt_RI a),decide_eq_true (lt_RI b)];rfl
end Go.Proofs.YthnfgmhehfombaaGreatDoor.fpn
/- Sixes of pairs: their cells, how they are held against each other and built. -/
namespace Go.Proofs.YthnfgmhehfombaaGreatDoor.fpn
open Go.RowKit Pl
def C12 (x:F12):List Value:=C6 x.c0++C6 x.c1
def V12 (x:F12):Value:=.agg (C12 x).toArray
theorem C12_len (x:F12):(C12 x).length=72:=rfl
theorem C12_cut0 (x:F12):List.take 36 (C12 x)=C6 x.c0:=rfl
theorem C12_spl0 (a:F6) (x:F12):Pl.splice (C12 x) 0 (C6 a)=C12 ⟨a,x.c1⟩:=rfl
theorem C12_cut1 (x:F12):List.take 36 (List.drop 36 (C12 x))=C6 x.c1:=rfl
theorem C12_spl1 (a:F6) (x:F12):Pl.splice (C12 x) 36 (C6 a)=C12 ⟨x.c0,a⟩:=rfl
theorem C12_eq (d:Nat) (x y:F12) (w:World):(Op.equalIn (d+5) 49 (V12 x) (V12 y)).run Tryz.prog w=.ok (decide (x=y)) w:=by
 have hE:∀ (a b:F6) (w:World),(Op.equalIn (d+4) 47 (.agg (C6 a).toArray) (.agg (C6 b).toArray)).run Tryz.prog w=.ok (decide (a=b)) w:=fun a b w=>C6_eq d a b w
 have hp0:∀ (x:F12) (w:World),(part 47 (C12 x).toArray 0).run Tryz.prog w=.ok (.agg (C6 x.c0).toArray) w:=fun x w=>by
  simp [part,Sem.run_bind,Tryz.isAgg47,Tryz.sizeOf47,C12_cut0]
 have hp1:∀ (x:F12) (w:World),(part 47 (C12 x).toArray 36).run Tryz.prog w=.ok (.agg (C6 x.c1).toArray) w:=fun x w=>by
  simp [part,Sem.run_bind,Tryz.isAgg47,Tryz.sizeOf47,C12_cut1]
 unfold V12
 rw [show d+5=(d+4)+1 from rfl,Op.equalIn.eq_def]
 simp only [Sem.run_bind,run_underlying Tryz.underlying49,Result.andThen_ok]
 simp only [Std.Legacy.Range.forIn_eq_forIn_range',Std.Legacy.Range.size,Nat.sub_zero,Nat.add_sub_cancel,Nat.div_one,List.range'_succ,List.range'_zero,List.forIn_cons,List.forIn_nil]
 simp only [Sem.run_bind,Tryz.sizeOf47,Result.andThen_ok,Nat.zero_mul,Nat.reduceAdd,Nat.reduceMul,Nat.one_mul,hp0,hp1,hE]
 by_cases h0:x.c0=y.c0
 ·by_cases h1:x.c1=y.c1
  ·have:x=y:=F12.ext' h0 h1
   simp [h0,h1,this,hp0,hp1,hE]
  ·have:x≠y:=fun e=>h1 (by rw [e])
   simp [h0,h1,this,hp0,hp1,hE]
 ·have:x≠y:=fun e=>h0 (by rw [e])
  simp [h0,this,hp0,hp1,hE]
theorem C12_grd (op:BinOp) (x y:Operand) (a b:F12) (w:World):(eqGuard op 49 x y (V12 a) (V12 b)).run Tryz.prog w=.ok () w:=by
 have h:Tryz.prog.eqGuardType Tryz.prog.depth 49=false:=by kernel_rfl
 unfold eqGuard V12
 cases op<;>simp [Sem.run_bind,h]
theorem C12_eql (a b:F12) (w:World):(binOp .eql 49 (V12 a) (V12 b)).run Tryz.prog w=.ok (.bool (decide (a=b))) w:=by
 have:=C12_eq 9995 a b w
 unfold V12 at *
 simp [binOp,Sem.run_bind,Op.equal,Op.maxDepth,this]
theorem C12_neq (a b:F12) (w:World):(binOp .neq 49 (V12 a) (V12 b)).run Tryz.prog w=.ok (.bool (!decide (a=b))) w:=by
 have:=C12_eq 9995 a b w
 unfold V12 at *
 simp [binOp,Sem.run_bind,Op.equal,Op.maxDepth,this]
theorem C12_zero:(Tryz.prog.info? 49).bind (·.zero)=some (.agg (C12 0).toArray):=by kernel_rfl
theorem C12_size:(Tryz.prog.info? 49).map (·.size)=some 72:=by kernel_rfl
theorem r12:RowT Tryz.prog 49 72 (C12 0):=⟨⟨_,Tryz.underlying49,rfl⟩,C12_size,C12_zero⟩
theorem a12:ArrT Tryz.prog 49 2 36:=⟨⟨_,Tryz.underlying49,C6_size⟩⟩
theorem q12:EqT Tryz.prog 49 V12:=⟨fun _ _ _ _ _ w=>C12_grd _ _ _ _ _ w,C12_eql,C12_neq⟩
theorem build12n (w:World):(Instr.build 49 #[]).run Tryz.prog w=.ok (V12 0) w :=
 run_build_array (cs:=C12 0) Tryz.underlying49 C6_size C12_zero rfl w
theorem build120 (a:F6) (w:World):(Instr.build 49 #[(0,V6 a)]).run Tryz.prog w=.ok (V12 ⟨a,0⟩) w :=
 run_build_array (cs:=C12 ⟨a,0⟩) Tryz.underlying49 C6_size C12_zero (by
  show Instr.fill _ (C12 0).toArray [(0,.agg (C6 a).toArray)]=_
  rw [fill_cons (off:=0) (sz:=36) rfl (C6_len a) (by rw [C12_len];omega),C12_spl0];rfl) w
theorem build1201 (a b:F6) (w:World):(Instr.build 49 #[(0,V6 a),(1,V6 b)]).run Tryz.prog w=.ok (V12 ⟨a,b⟩) w :=
 run_build_array (cs:=C12 ⟨a,b⟩) Tryz.underlying49 C6_size C12_zero (by
  show Instr.fill _ (C12 0).toArray [(0,.agg (C6 a).toArray),(1,.agg (C6 b).toArray)]=_
  rw [fill_cons (off:=0) (sz:=36) rfl (C6_len a) (by rw [C12_len];omega),C12_spl0,fill_cons (off:=36) (sz:=36) rfl (C6_len b) (by rw [C12_len];omega),C12_spl1];rfl) w
def QC12 (f g f2 g2 f3 g3 f4 g4 f5 g5 f6 g6:Nat→Int):List Value:=QC6 f g f2 g2 f3 g3++QC6 f4 g4 f5 g5 f6 g6
def QV12 (f g f2 g2 f3 g3 f4 g4 f5 g5 f6 g6:Nat→Int):Value:=.agg (QC12 f g f2 g2 f3 g3 f4 g4 f5 g5 f6 g6).toArray
end Go.Proofs.YthnfgmhehfombaaGreatDoor.fpn
/- Package fp12. -/
namespace Go.Proofs.YthnfgmhehfombaaGreatDoor.fpn
open Go.RowKit Pl
section
open Rn
variable {α:Type} [Add α] [Mul α] [Neg α] [Sub α] [OfNat α 0] [OfNat α 1] [CR α]
theorem rt12_0 (a0 a1 b0 b1:α):((((a0+a1)*(b0+b1))-(a0*b0))-(a1*b1))=((a0*b1)+(a1*b0)):=ring [a0,a1,b0,b1] (.s (.s (.m (.a (.v 0) (.v 1)) (.a (.v 2) (.v 3))) (.m (.v 0) (.v 2))) (.m (.v 1) (.v 3))) (.a (.m (.v 0) (.v 3)) (.m (.v 1) (.v 2))) (by kernel_rfl)
end
theorem F12.inv_scale (x:F12):(⟨x.conj.c0*x.norm.inv,x.conj.c1*x.norm.inv⟩:F12)=x.inv:=F12.ext' rfl (Rn.neg_mul _ _)
theorem fp12One {G:World→Prop} (K:FpK G)  (w:World) (hg:G w):Calls Tryz.prog 36 #[] w (Ret (V12 1) w):=by
 have hp0:=Heap.start w
 go_enter Tryz.func36,Tryz.ntmps36
 refine sgs [.alloc (C12 0)] [0] [0] (fun L=>[L.p 0]++U 4) (fun L=>[(L.b 0,C12 0)]) hp0 ⟨
  oZ r12,
  trivial⟩ (fun L0 w1 hp1=>?_)
 refine sgsD [.det (FV 1),.det (PV ⟨1,0⟩),.det (V6 ⟨⟨1,0⟩,0,0⟩),.det (V12 ⟨⟨⟨1,0⟩,0,0⟩,0⟩),.store (.base 0) 0 (C12 ⟨⟨⟨1,0⟩,0,0⟩,0⟩) (C12 ⟨⟨⟨1,0⟩,0,0⟩,0⟩)] (nn 5) [0,1,3,7,15] (fun L d=>[L0.p 0]++D d 1 4) (fun L=>[(L0.b 0,C12 ⟨⟨⟨1,0⟩,0,0⟩,0⟩)]) hp1 ⟨
  oD buildF1,oD (buildPa 1),oD (build60 ⟨1,0⟩),oD (build120 ⟨⟨1,0⟩,0,0⟩),oT r12,
  trivial⟩ (fun L1 _ w2 hp2=>?_)
 refine wp_ret ?_
 refine bodyPost_ret (v:=V12 ⟨⟨⟨1,0⟩,0,0⟩,0⟩) ?_ rfl ?_
 ·exact rc r12 rfl (by kernel_rfl) (hp2.bound 0 rfl).2
 ·exact ⟨rfl,hp2.bel⟩
theorem fp12Add {G:World→Prop} (K:FpK G) (x y:F12) (w:World) (hg:G w):Calls Tryz.prog 128 #[V12 x,V12 y] w (Ret (V12 (x+y)) w):=by
 have hp0:=Heap.start w
 go_enter Tryz.func128,Tryz.ntmps128
 refine sgs [.alloc (C12 x),.alloc (C12 y),.alloc (C12 0)] [0,1,2] [0,0,0] (fun L=>[V12 x,V12 y,L.p 0,L.p 1,L.p 2]++U 11) (fun L=>[(L.b 0,C12 x),(L.b 1,C12 y),(L.b 2,C12 0)]) hp0 ⟨
  oB,oB,oZ r12,
  trivial⟩ (fun L0 w1 hp1=>?_)
 refine sdrD [.det (L0.p 0),.det (V6 x.c0),.det (L0.p 1),.det (V6 y.c0),.det (V6 (x.c0+y.c0)),.det (pt (L0.b 0) 36),.det (V6 x.c1),.det (pt (L0.b 1) 36),.det (V6 y.c1),.det (V6 (x.c1+y.c1)),.det (V12 ⟨(x.c0+y.c0),(x.c1+y.c1)⟩),.store (.base 2) 0 (C12 ⟨(x.c0+y.c0),(x.c1+y.c1)⟩) (C12 ⟨(x.c0+y.c0),(x.c1+y.c1)⟩)] (nn 12) [0,1,0,4,15,0,32,0,128,511,1023,2047] (fun L d=>D d 0 4++([L0.p 2]++D d 5 11)) (fun L=>[(L0.b 0,C12 x),(L0.b 1,C12 y),(L0.b 2,C12 ⟨(x.c0+y.c0),(x.c1+y.c1)⟩)]) hp1 ⟨
  oI a12,oL 0 0 r6,oI a12,oL 1 0 r6,oC K.stay hg (fp6Add K x.c0 y.c0),oI a12,oL 0 36 r6,oI a12,oL 1 36 r6,oC K.stay hg (fp6Add K x.c1 y.c1),oD (build1201 (x.c0+y.c0) (x.c1+y.c1)),
  oT r12,
  trivial⟩ (fun L1 _ w2 hp2=>?_)
 refine wp_ret ?_
 refine bodyPost_ret (v:=V12 ⟨(x.c0+y.c0),(x.c1+y.c1)⟩) ?_ rfl ?_
 ·exact rc r12 rfl (by kernel_rfl) (hp2.bound 2 rfl).2
 ·exact ⟨rfl,hp2.bel⟩
theorem fp12Sub {G:World→Prop} (K:FpK G) (x y:F12) (w:World) (hg:G w):Calls Tryz.prog 127 #[V12 x,V12 y] w (Ret (V12 (x-y)) w):=by
 have hp0:=Heap.start w
 go_enter Tryz.func127,Tryz.ntmps127
 refine sgs [.alloc (C12 x),.alloc (C12 y),.alloc (C12 0)] [0,1,2] [0,0,0] (fun L=>[V12 x,V12 y,L.p 0,L.p 1,L.p 2]++U 11) (fun L=>[(L.b 0,C12 x),(L.b 1,C12 y),(L.b 2,C12 0)]) hp0 ⟨
  oB,oB,oZ r12,
  trivial⟩ (fun L0 w1 hp1=>?_)
 refine sdrD [.det (L0.p 0),.det (V6 x.c0),.det (L0.p 1),.det (V6 y.c0),.det (V6 (x.c0-y.c0)),.det (pt (L0.b 0) 36),.det (V6 x.c1),.det (pt (L0.b 1) 36),.det (V6 y.c1),.det (V6 (x.c1-y.c1)),.det (V12 ⟨(x.c0-y.c0),(x.c1-y.c1)⟩),.store (.base 2) 0 (C12 ⟨(x.c0-y.c0),(x.c1-y.c1)⟩) (C12 ⟨(x.c0-y.c0),(x.c1-y.c1)⟩)] (nn 12) [0,1,0,4,15,0,32,0,128,511,1023,2047] (fun L d=>D d 0 4++([L0.p 2]++D d 5 11)) (fun L=>[(L0.b 0,C12 x),(L0.b 1,C12 y),(L0.b 2,C12 ⟨(x.c0-y.c0),(x.c1-y.c1)⟩)]) hp1 ⟨
  oI a12,oL 0 0 r6,oI a12,oL 1 0 r6,oC K.stay hg (fp6Sub K x.c0 y.c0),oI a12,oL 0 36 r6,oI a12,oL 1 36 r6,oC K.stay hg (fp6Sub K x.c1 y.c1),oD (build1201 (x.c0-y.c0) (x.c1-y.c1)),
  oT r12,
  trivial⟩ (fun L1 _ w2 hp2=>?_)
 refine wp_ret ?_
 refine bodyPost_ret (v:=V12 ⟨(x.c0-y.c0),(x.c1-y.c1)⟩) ?_ rfl ?_
 ·exact rc r12 rfl (by kernel_rfl) (hp2.bound 2 rfl).2
 ·exact ⟨rfl,hp2.bel⟩
theorem fp12Mul {G:World→Prop} (K:FpK G) (x y:F12) (w:World) (hg:G w):Calls Tryz.prog 37 #[V12 x,V12 y] w (Ret (V12 (x*y)) w):=by
 have hp0:=Heap.start w
 go_enter Tryz.func37,Tryz.ntmps37
 refine sgs [.alloc (C12 x),.alloc (C12 y),.alloc (C12 0)] [0,1,2] [0,0,0] (fun L=>[V12 x,V12 y,L.p 0,L.p 1,L.p 2]++U 34) (fun L=>[(L.b 0,C12 x),(L.b 1,C12 y),(L.b 2,C12 0)]) hp0 ⟨
  oB,oB,oZ r12,
  trivial⟩ (fun L0 w1 hp1=>?_)
 refine sdrD [.det (L0.p 0),.det (V6 x.c0),.det (L0.p 1),.det (V6 y.c0),.det (V6 (x.c0*y.c0)),.det (pt (L0.b 0) 36),.det (V6 x.c1),.det (pt (L0.b 1) 36),.det (V6 y.c1),.det (V6 (x.c1*y.c1)),.alloc (C6 0),.alloc (C6 0),.store (.new 10) 0 (C6 (x.c0*y.c0)) (C6 (x.c0*y.c0)),.store (.new 11) 0 (C6 (x.c1*y.c1)) (C6 (x.c1*y.c1))] (nn 14) [0,1,0,4,15,0,32,0,128,511,0,0,4095,8191] (fun L d=>D d 0 2++([L0.p 0,L0.p 1,L0.p 2,L.p 10,L.p 11]++D d 7 32)) (fun L=>[(L0.b 0,C12 x),(L0.b 1,C12 y),(L0.b 2,C12 0),(L.b 10,C6 (x.c0*y.c0)),(L.b 11,C6 (x.c1*y.c1))]) hp1 ⟨
  oI a12,oL 0 0 r6,oI a12,oL 1 0 r6,oC K.stay hg (fp6Mul K x.c0 y.c0),oI a12,oL 0 36 r6,oI a12,oL 1 36 r6,oC K.stay hg (fp6Mul K x.c1 y.c1),oZ r6,oZ r6,
  oT r6,oT r6,
  trivial⟩ (fun L1 _ w2 hp2=>?_)
 refine sdrD [.det (L0.p 0),.det (V6 x.c0),.det (pt (L0.b 0) 36),.det (V6 x.c1),.det (V6 (x.c0+x.c1)),.det (L0.p 1),.det (V6 y.c0),.det (pt (L0.b 1) 36),.det (V6 y.c1),.det (V6 (y.c0+y.c1)),.det (V6 ((x.c0+x.c1)*(y.c0+y.c1))),.alloc (C6 0),.store (.new 11) 0 (C6 ((x.c0+x.c1)*(y.c0+y.c1))) (C6 ((x.c0+x.c1)*(y.c0+y.c1)))] (nn 13) [0,1,0,4,15,0,32,0,128,511,1023,0,4095] (fun L d=>D d 0 4++([L0.p 2,L1.p 10,L1.p 11,L.p 11]++D d 8 31)) (fun L=>[(L0.b 0,C12 x),(L0.b 1,C12 y),(L0.b 2,C12 0),(L1.b 10,C6 (x.c0*y.c0)),(L1.b 11,C6 (x.c1*y.c1)),(L.b 11,C6 ((x.c0+x.c1)*(y.c0+y.c1)))]) hp2 ⟨
  oI a12,oL 0 0 r6,oI a12,oL 0 36 r6,oC K.stay hg (fp6Add K x.c0 x.c1),oI a12,oL 1 0 r6,oI a12,oL 1 36 r6,oC K.stay hg (fp6Add K y.c0 y.c1),oC K.stay hg (fp6Mul K (x.c0+x.c1) (y.c0+y.c1)),
  oZ r6,oT r6,
  trivial⟩ (fun L2 _ w3 hp3=>?_)
 refine sdrD [.det (V6 (x.c0*y.c0)),.det (V6 (x.c1*y.c1)),.det (V6 ((x.c1*y.c1).up)),.det (V6 ((x.c0*y.c0)+((x.c1*y.c1).up))),.det (V6 ((x.c0+x.c1)*(y.c0+y.c1))),.det (V6 (x.c0*y.c0)),.det (V6 (((x.c0+x.c1)*(y.c0+y.c1))-(x.c0*y.c0))),.det (V6 (x.c1*y.c1)),.det (V6 ((((x.c0+x.c1)*(y.c0+y.c1))-(x.c0*y.c0))-(x.c1*y.c1))),.det (V12 ⟨((x.c0*y.c0)+((x.c1*y.c1).up)),((((x.c0+x.c1)*(y.c0+y.c1))-(x.c0*y.c0))-(x.c1*y.c1))⟩),.store (.base 2) 0 (C12 ⟨((x.c0*y.c0)+((x.c1*y.c1).up)),((((x.c0+x.c1)*(y.c0+y.c1))-(x.c0*y.c0))-(x.c1*y.c1))⟩) (C12 ⟨((x.c0*y.c0)+((x.c1*y.c1).up)),((((x.c0+x.c1)*(y.c0+y.c1))-(x.c0*y.c0))-(x.c1*y.c1))⟩)] (nn 11) [0,0,2,7,0,0,63,0,255,511,1023] (fun L d=>D d 0 4++([L0.p 2]++D d 5 34)) (fun L=>[(L0.b 0,C12 x),(L0.b 1,C12 y),(L0.b 2,C12 ⟨((x.c0*y.c0)+((x.c1*y.c1).up)),((((x.c0+x.c1)*(y.c0+y.c1))-(x.c0*y.c0))-(x.c1*y.c1))⟩),(L1.b 10,C6 (x.c0*y.c0)),(L1.b 11,C6 (x.c1*y.c1)),(L2.b 11,C6 ((x.c0+x.c1)*(y.c0+y.c1)))]) hp3 ⟨
  oL 3 0 r6,oL 4 0 r6,oC K.stay hg (fp6Up K (x.c1*y.c1)),oC K.stay hg (fp6Add K (x.c0*y.c0) ((x.c1*y.c1).up)),oL 5 0 r6,oL 3 0 r6,oC K.stay hg (fp6Sub K ((x.c0+x.c1)*(y.c0+y.c1)) (x.c0*y.c0)),
  oL 4 0 r6,oC K.stay hg (fp6Sub K (((x.c0+x.c1)*(y.c0+y.c1))-(x.c0*y.c0)) (x.c1*y.c1)),oD (build1201 ((x.c0*y.c0)+((x.c1*y.c1).up)) ((((x.c0+x.c1)*(y.c0+y.c1))-(x.c0*y.c0))-(x.c1*y.c1))),
  oT r12,
  trivial⟩ (fun L3 _ w4 hp4=>?_)
 refine wp_ret ?_
 refine bodyPost_ret (v:=V12 ⟨((x.c0*y.c0)+((x.c1*y.c1).up)),((((x.c0+x.c1)*(y.c0+y.c1))-(x.c0*y.c0))-(x.c1*y.c1))⟩) ?_ rfl ?_
 ·exact rc r12 rfl (by kernel_rfl) (hp4.bound 2 rfl).2
 ·exact ⟨congrArg (fun z=>Ending.returned (V12 z)) (F12.ext' (rfl) (rt12_0 (x.c0) (x.c1) (y.c0) (y.c1))),hp4.bel⟩
theorem fp12Conj {G:World→Prop} (K:FpK G) (x:F12) (w:World) (hg:G w):Calls Tryz.prog 108 #[V12 x] w (Ret (V12 x.conj) w):=by
 have hp0:=Heap.start w
 go_enter Tryz.func108,Tryz.ntmps108
 refine sgs [.alloc (C12 x),.alloc (C12 0)] [0,1] [0,0] (fun L=>[V12 x,L.p 0,L.p 1]++U 6) (fun L=>[(L.b 0,C12 x),(L.b 1,C12 0)]) hp0 ⟨
  oB,oZ r12,
  trivial⟩ (fun L0 w1 hp1=>?_)
 refine sdrD [.det (L0.p 0),.det (V6 x.c0),.det (pt (L0.b 0) 36),.det (V6 x.c1),.det (V6 (-x.c1)),.det (V12 ⟨x.c0,(-x.c1)⟩),.store (.base 1) 0 (C12 ⟨x.c0,(-x.c1)⟩) (C12 ⟨x.c0,(-x.c1)⟩)] (nn 7) [0,1,0,4,12,31,63] (fun L d=>D d 0 2++([L0.p 1]++D d 3 6)) (fun L=>[(L0.b 0,C12 x),(L0.b 1,C12 ⟨x.c0,(-x.c1)⟩)]) hp1 ⟨
  oI a12,oL 0 0 r6,oI a12,oL 0 36 r6,oC K.stay hg (fp6Neg K x.c1),oD (build1201 x.c0 (-x.c1)),oT r12,
  trivial⟩ (fun L1 _ w2 hp2=>?_)
 refine wp_ret ?_
 refine bodyPost_ret (v:=V12 ⟨x.c0,(-x.c1)⟩) ?_ rfl ?_
 ·exact rc r12 rfl (by kernel_rfl) (hp2.bound 1 rfl).2
 ·exact ⟨rfl,hp2.bel⟩
theorem fp12norm {G:World→Prop} (K:FpK G) (x:F12) (w:World) (hg:G w):Calls Tryz.prog 130 #[V12 x] w (Ret (V6 x.norm) w):=by
 have hp0:=Heap.start w
 go_enter Tryz.func130,Tryz.ntmps130
 refine sgs [.alloc (C12 x),.alloc (C6 0)] [0,1] [0,0] (fun L=>[V12 x,L.p 0,L.p 1]++U 12) (fun L=>[(L.b 0,C12 x),(L.b 1,C6 0)]) hp0 ⟨
  oB,oZ r6,
  trivial⟩ (fun L0 w1 hp1=>?_)
 refine sdrD [.det (L0.p 0),.det (V6 x.c0),.det (L0.p 0),.det (V6 x.c0),.det (V6 (x.c0*x.c0)),.det (pt (L0.b 0) 36),.det (V6 x.c1),.det (pt (L0.b 0) 36),.det (V6 x.c1),.det (V6 (x.c1*x.c1)),.det (V6 ((x.c1*x.c1).up)),.det (V6 ((x.c0*x.c0)-((x.c1*x.c1).up))),.store (.base 1) 0 (C6 ((x.c0*x.c0)-((x.c1*x.c1).up))) (C6 ((x.c0*x.c0)-((x.c1*x.c1).up)))] (nn 13) [0,1,0,4,15,0,32,0,128,511,1023,2047,4095] (fun L d=>D d 0 2++([L0.p 1]++D d 3 12)) (fun L=>[(L0.b 0,C12 x),(L0.b 1,C6 ((x.c0*x.c0)-((x.c1*x.c1).up)))]) hp1 ⟨
  oI a12,oL 0 0 r6,oI a12,oL 0 0 r6,oC K.stay hg (fp6Mul K x.c0 x.c0),oI a12,oL 0 36 r6,oI a12,oL 0 36 r6,oC K.stay hg (fp6Mul K x.c1 x.c1),oC K.stay hg (fp6Up K (x.c1*x.c1)),
  oC K.stay hg (fp6Sub K (x.c0*x.c0) ((x.c1*x.c1).up)),oT r6,
  trivial⟩ (fun L1 _ w2 hp2=>?_)
 refine wp_ret ?_
 refine bodyPost_ret (v:=V6 ((x.c0*x.c0)-((x.c1*x.c1).up))) ?_ rfl ?_
 ·exact rc r6 rfl (by kernel_rfl) (hp2.bound 1 rfl).2
 ·exact ⟨rfl,hp2.bel⟩
theorem fp12scale {G:World→Prop} (K:FpK G) (x:F12) (k:F6) (w:World) (hg:G w):Calls Tryz.prog 131 #[V12 x,V6 k] w (Ret (V12 ⟨x.c0*k,x.c1*k⟩) w):=by
 have hp0:=Heap.start w
 go_enter Tryz.func131,Tryz.ntmps131
 refine sgs [.alloc (C12 x),.alloc (C6 k),.alloc (C12 0)] [0,1,2] [0,0,0] (fun L=>[V12 x,V6 k,L.p 0,L.p 1,L.p 2]++U 9) (fun L=>[(L.b 0,C12 x),(L.b 1,C6 k),(L.b 2,C12 0)]) hp0 ⟨
  oB,oB,oZ r12,
  trivial⟩ (fun L0 w1 hp1=>?_)
 refine sdrD [.det (L0.p 0),.det (V6 x.c0),.det (V6 k),.det (V6 (x.c0*k)),.det (pt (L0.b 0) 36),.det (V6 x.c1),.det (V6 k),.det (V6 (x.c1*k)),.det (V12 ⟨(x.c0*k),(x.c1*k)⟩),.store (.base 2) 0 (C12 ⟨(x.c0*k),(x.c1*k)⟩) (C12 ⟨(x.c0*k),(x.c1*k)⟩)] (nn 10) [0,1,0,7,0,16,0,127,255,511] (fun L d=>D d 0 4++([L0.p 2]++D d 5 9)) (fun L=>[(L0.b 0,C12 x),(L0.b 1,C6 k),(L0.b 2,C12 ⟨(x.c0*k),(x.c1*k)⟩)]) hp1 ⟨
  oI a12,oL 0 0 r6,oL 1 0 r6,oC K.stay hg (fp6Mul K x.c0 k),oI a12,oL 0 36 r6,oL 1 0 r6,oC K.stay hg (fp6Mul K x.c1 k),oD (build1201 (x.c0*k) (x.c1*k)),
  oT r12,
  trivial⟩ (fun L1 _ w2 hp2=>?_)
 refine wp_ret ?_
 refine bodyPost_ret (v:=V12 ⟨(x.c0*k),(x.c1*k)⟩) ?_ rfl ?_
 ·exact rc r12 rfl (by kernel_rfl) (hp2.bound 2 rfl).2
 ·exact ⟨rfl,hp2.bel⟩
theorem fp12Inv {G:World→Prop} (K:FpK G) (x:F12) (w:World) (hg:G w) (hn:x.norm≠0):Calls Tryz.prog 105 #[V12 x] w (Ret (.tuple #[V12 x.inv,.int .i64 0]) w):=by
 have hp0:=Heap.start w
 go_enter Tryz.func105,Tryz.ntmps105
 refine sgsD [.alloc (C12 x),.alloc (C12 0),.det (.int .i64 0)] [0,1,2] [0,0,0] (fun L d=>[d 0,L.p 0,L.p 1]++D d 3 17) (fun L=>[(L.b 0,C12 x),(L.b 1,C12 0)]) hp0 ⟨
  oB,oZ r12,oA,
  trivial⟩ (fun L0 _ w1 hp1=>?_)
 refine sgsD [.det (V12 x),.det (V6 x.norm),.det (.tuple #[V6 x.norm.inv,.int .i64 0]),.det (.tuple #[V6 x.norm.inv,.int .i64 0]),.det (V6 x.norm.inv),.det (.int .i64 0),.alloc (C6 0),.store (.new 6) 0 (C6 x.norm.inv) (C6 x.norm.inv),.det (.int .i64 0)] (nn 9) [0,1,3,7,15,15,0,95,255] (fun L d=>[d 0,L0.p 0,L0.p 1,d 3,L.p 6,.int .i64 0]++D d 6 14) (fun L=>[(L0.b 0,C12 x),(L0.b 1,C12 0),(L.b 6,C6 x.norm.inv)]) hp1 ⟨
  oL 0 0 r12,oC K.stay hg (fp12norm K x),oH (v:=.tuple #[V6 x.norm.inv,.int .i64 0]) (vs:=#[V6 x.norm]) (fun w hb _=>fp6Inv K x.norm w (K.stay hg hb) (F6.norm_ne hn)),
  oM,oX,oX,oZ r6,oT r6,oA,
  trivial⟩ (fun L1 _ w2 hp2=>?_)
 refine wp_seq_k (fun K3 k3=>?_)
 refine sgsD [.det (.int .i64 0),.det (.bool false)] [0,1] [0,1] (fun L d=>[d 0,L0.p 0,L0.p 1,d 3,L1.p 6]++(D d 5 8++([.bool false]++D d 14 6))) (fun L=>[(L0.b 0,C12 x),(L0.b 1,C12 0),(L1.b 6,C6 x.norm.inv)]) hp2 ⟨
  oM,oJ .i64 .i64 0 0 (h:=fun w=>(neqI _ _ _ _ w).trans rfl),
  trivial⟩ (fun L2 _ w3 hp3=>?_)
 refine cfk (k3 _ _ ?_)
 refine sdrD [.det (V12 x),.det (V12 x.conj),.det (V6 x.norm.inv),.det (V12 x.inv),.store (.base 1) 0 (C12 x.inv) (C12 x.inv),.det (.int .i64 0)] (nn 6) [0,1,0,7,15,31] (fun L d=>D d 0 2++([L0.p 1,.int .i64 0]++D d 4 16)) (fun L=>[(L0.b 0,C12 x),(L0.b 1,C12 x.inv),(L1.b 6,C6 x.norm.inv)]) hp3 ⟨
  oL 0 0 r12,oC K.stay hg (fp12Conj K x),oL 2 0 r6,oH (v:=V12 x.inv) (vs:=#[V12 x.conj,V6 x.norm.inv]) (fun w hb _=>by have h:=fp12scale K x.conj x.norm.inv w (K.stay hg hb);rw [F12.inv_scale] at h;exact h),
  oT r12,oA,
  trivial⟩ (fun L3 _ w4 hp4=>?_)
 refine wp_ret ?_
 refine bodyPost_ret (v:=.tuple #[V12 x.inv,.int .i64 0]) ?_ rfl ?_
 ·exact rct r12 rfl (by kernel_rfl) (by kernel_rfl) (hp4.bound 1 rfl).2
 ·exact ⟨rfl,hp4.bel⟩
def may6 (f g f2 g2 f3 g3:Nat→Int):Bool:=may2 f g && (may2 f2 g2 && may2 f3 g3)
theorem may6_num (a b c d e f:F):may6 (lb a.val) (lb b.val) (lb c.val) (lb d.val) (lb e.val) (lb f.val)=true:=by
 unfold may6
 rw [may2_num,may2_num,may2_num];rfl
end Go.Proofs.YthnfgmhehfombaaGreatDoor.fpn
