/- Texts laid together. -/
import Derived.Test.YthnfgmhehfombaaGreatDoorGE
import Derived.Test.YthnfgmhehfombaaGreatDoorGF
import Derived.Test.YthnfgmhehfombaaGreatDoorGC
import Derived.Test.YthnfgmhehfombaaGreatDoorGD
import Derived.Deep.LoopGhost
set_option linter.unusedVariables false
set_option linter.unusedSimpArgs false
set_option maxRecDepth 4000
set_option maxHeartbeats 4000000
/- The reference's pairs. -/
namespace Go.Proofs.YthnfgmhehfombaaGreatDoor.fpn
open Go.RowKit Pl
theorem ref5Add2 (R:RefK) (x y:F2) (w:World):Calls Tryz.prog 84 #[PV x,PV y] w (Ret (PV (x+y)) w):=by
 obtain ⟨n1,o1⟩:=nm (x.c0+y.c0)
 obtain ⟨n2,o2⟩:=nm (x.c1+y.c1)
 have fin:Ending.returned (PV ⟨n1,n2⟩)=Ending.returned (PV (x+y)):=by subst_vars;exact rfl
 have hp0:=Heap.start w
 go_enter Tryz.func84,Tryz.ntmps84
 refine sgs [.alloc (PC x),.alloc (PC y),.alloc (PC 0)] [0,1,2] [0,0,0] (fun L=>[PV x,PV y,L.p 0,L.p 1,L.p 2]++U 11) (fun L=>[(L.b 0,PC x),(L.b 1,PC y),(L.b 2,PC 0)]) hp0 ⟨
  oB,oB,oZ rP,
  trivial⟩ (fun L0 w1 hp1=>?_)
 refine sdrD [.det (L0.p 0),.det (FV x.c0),.det (L0.p 1),.det (FV y.c0),.det (FV n1),.det (pt (L0.b 0) 6),.det (FV x.c1),.det (pt (L0.b 1) 6),.det (FV y.c1),.det (FV n2),.det (PV ⟨n1,n2⟩),.store (.base 2) 0 (PC ⟨n1,n2⟩) (PC ⟨n1,n2⟩)] (nn 12) [0,1,0,4,15,0,32,0,128,511,1023,2047] (fun L d=>D d 0 4++([L0.p 2]++D d 5 11)) (fun L=>[(L0.b 0,PC x),(L0.b 1,PC y),(L0.b 2,PC ⟨n1,n2⟩)]) hp1 ⟨
  oI aP,oL 0 0 rF,oI aP,oL 1 0 rF,oR (nFR o1 (fun w=>R.add x.c0 y.c0 w trivial)),oI aP,oL 0 6 rF,oI aP,oL 1 6 rF,oR (nFR o2 (fun w=>R.add x.c1 y.c1 w trivial)),
  oD (buildP n1 n2),oT rP,
  trivial⟩ (fun L1 _ w2 hp2=>?_)
 refine wp_ret ?_
 refine bodyPost_ret (v:=PV ⟨n1,n2⟩) ?_ rfl ?_
 ·exact rc rP rfl (by kernel_rfl) (hp2.bound 2 rfl).2
 ·exact ⟨fin,hp2.bel⟩
theorem ref5Sub2 (R:RefK) (x y:F2) (w:World):Calls Tryz.prog 83 #[PV x,PV y] w (Ret (PV (x-y)) w):=by
 obtain ⟨n1,o1⟩:=nm (x.c0-y.c0)
 obtain ⟨n2,o2⟩:=nm (x.c1-y.c1)
 have fin:Ending.returned (PV ⟨n1,n2⟩)=Ending.returned (PV (x-y)):=by subst_vars;exact rfl
 have hp0:=Heap.start w
 go_enter Tryz.func83,Tryz.ntmps83
 refine sgs [.alloc (PC x),.alloc (PC y),.alloc (PC 0)] [0,1,2] [0,0,0] (fun L=>[PV x,PV y,L.p 0,L.p 1,L.p 2]++U 11) (fun L=>[(L.b 0,PC x),(L.b 1,PC y),(L.b 2,PC 0)]) hp0 ⟨
  oB,oB,oZ rP,
  trivial⟩ (fun L0 w1 hp1=>?_)
 refine sdrD [.det (L0.p 0),.det (FV x.c0),.det (L0.p 1),.det (FV y.c0),.det (FV n1),.det (pt (L0.b 0) 6),.det (FV x.c1),.det (pt (L0.b 1) 6),.det (FV y.c1),.det (FV n2),.det (PV ⟨n1,n2⟩),.store (.base 2) 0 (PC ⟨n1,n2⟩) (PC ⟨n1,n2⟩)] (nn 12) [0,1,0,4,15,0,32,0,128,511,1023,2047] (fun L d=>D d 0 4++([L0.p 2]++D d 5 11)) (fun L=>[(L0.b 0,PC x),(L0.b 1,PC y),(L0.b 2,PC ⟨n1,n2⟩)]) hp1 ⟨
  oI aP,oL 0 0 rF,oI aP,oL 1 0 rF,oR (nFR o1 (fun w=>R.sub x.c0 y.c0 w trivial)),oI aP,oL 0 6 rF,oI aP,oL 1 6 rF,oR (nFR o2 (fun w=>R.sub x.c1 y.c1 w trivial)),
  oD (buildP n1 n2),oT rP,
  trivial⟩ (fun L1 _ w2 hp2=>?_)
 refine wp_ret ?_
 refine bodyPost_ret (v:=PV ⟨n1,n2⟩) ?_ rfl ?_
 ·exact rc rP rfl (by kernel_rfl) (hp2.bound 2 rfl).2
 ·exact ⟨fin,hp2.bel⟩
theorem ref5Mul2 (R:RefK) (x y:F2) (w:World):Calls Tryz.prog 86 #[PV x,PV y] w (Ret (PV (x*y)) w):=by
 obtain ⟨n1,o1⟩:=nm (x.c0*y.c0)
 obtain ⟨n2,o2⟩:=nm (x.c1*y.c1)
 obtain ⟨n3,o3⟩:=nm (n1-n2)
 obtain ⟨n4,o4⟩:=nm (x.c0*y.c1)
 obtain ⟨n5,o5⟩:=nm (x.c1*y.c0)
 obtain ⟨n6,o6⟩:=nm (n4+n5)
 have fin:Ending.returned (PV ⟨n3,n6⟩)=Ending.returned (PV (x*y)):=by subst_vars;exact rfl
 have hp0:=Heap.start w
 go_enter Tryz.func86,Tryz.ntmps86
 refine sgs [.alloc (PC x),.alloc (PC y),.alloc (PC 0)] [0,1,2] [0,0,0] (fun L=>[PV x,PV y,L.p 0,L.p 1,L.p 2]++U 27) (fun L=>[(L.b 0,PC x),(L.b 1,PC y),(L.b 2,PC 0)]) hp0 ⟨
  oB,oB,oZ rP,
  trivial⟩ (fun L0 w1 hp1=>?_)
 refine sdrD [.det (L0.p 0),.det (FV x.c0),.det (L0.p 1),.det (FV y.c0),.det (FV n1),.det (pt (L0.b 0) 6),.det (FV x.c1),.det (pt (L0.b 1) 6),.det (FV y.c1),.det (FV n2),.det (FV n3),.alloc (FC 0),.store (.new 11) 0 (FC n3) (FC n3)] (nn 13) [0,1,0,4,15,0,32,0,128,511,1023,0,4095] (fun L d=>D d 0 2++([L0.p 0,L0.p 1,L0.p 2,L.p 11]++D d 6 26)) (fun L=>[(L0.b 0,PC x),(L0.b 1,PC y),(L0.b 2,PC 0),(L.b 11,FC n3)]) hp1 ⟨
  oI aP,oL 0 0 rF,oI aP,oL 1 0 rF,oR (nFR o1 (fun w=>R.mul x.c0 y.c0 w trivial)),oI aP,oL 0 6 rF,oI aP,oL 1 6 rF,oR (nFR o2 (fun w=>R.mul x.c1 y.c1 w trivial)),
  oR (nFR o3 (fun w=>R.sub n1 n2 w trivial)),oZ rF,oT rF,
  trivial⟩ (fun L1 _ w2 hp2=>?_)
 refine sdrD [.det (L0.p 0),.det (FV x.c0),.det (pt (L0.b 1) 6),.det (FV y.c1),.det (FV n4),.det (pt (L0.b 0) 6),.det (FV x.c1),.det (L0.p 1),.det (FV y.c0),.det (FV n5),.det (FV n6),.alloc (FC 0),.store (.new 11) 0 (FC n6) (FC n6)] (nn 13) [0,1,0,4,15,0,32,0,128,511,1023,0,4095] (fun L d=>D d 0 4++([L0.p 2,L1.p 11,L.p 11]++D d 7 25)) (fun L=>[(L0.b 0,PC x),(L0.b 1,PC y),(L0.b 2,PC 0),(L1.b 11,FC n3),(L.b 11,FC n6)]) hp2 ⟨
  oI aP,oL 0 0 rF,oI aP,oL 1 6 rF,oR (nFR o4 (fun w=>R.mul x.c0 y.c1 w trivial)),oI aP,oL 0 6 rF,oI aP,oL 1 0 rF,oR (nFR o5 (fun w=>R.mul x.c1 y.c0 w trivial)),
  oR (nFR o6 (fun w=>R.add n4 n5 w trivial)),oZ rF,oT rF,
  trivial⟩ (fun L2 _ w3 hp3=>?_)
 refine sgsD [.det (FV n3),.det (FV n6),.det (PV ⟨n3,n6⟩),.store (.base 2) 0 (PC ⟨n3,n6⟩) (PC ⟨n3,n6⟩)] [0,1,2,3] [0,0,3,7] (fun L d=>D d 0 4++([L0.p 2]++D d 5 27)) (fun L=>[(L0.b 0,PC x),(L0.b 1,PC y),(L0.b 2,PC ⟨n3,n6⟩),(L1.b 11,FC n3),(L2.b 11,FC n6)]) hp3 ⟨
  oL 3 0 rF,oL 4 0 rF,oD (buildP n3 n6),oT rP,
  trivial⟩ (fun L3 _ w4 hp4=>?_)
 refine wp_ret ?_
 refine bodyPost_ret (v:=PV ⟨n3,n6⟩) ?_ rfl ?_
 ·exact rc rP rfl (by kernel_rfl) (hp4.bound 2 rfl).2
 ·exact ⟨fin,hp4.bel⟩
theorem ref5Conj2 (R:RefK) (x:F2) (w:World):Calls Tryz.prog 115 #[PV x] w (Ret (PV x.conj) w):=by
 obtain ⟨n1,o1⟩:=nm (-x.c1)
 have fin:Ending.returned (PV ⟨x.c0,n1⟩)=Ending.returned (PV x.conj):=by subst_vars;exact rfl
 have hp0:=Heap.start w
 go_enter Tryz.func115,Tryz.ntmps115
 refine sgs [.alloc (PC x),.alloc (PC 0)] [0,1] [0,0] (fun L=>[PV x,L.p 0,L.p 1]++U 6) (fun L=>[(L.b 0,PC x),(L.b 1,PC 0)]) hp0 ⟨
  oB,oZ rP,
  trivial⟩ (fun L0 w1 hp1=>?_)
 refine sdrD [.det (L0.p 0),.det (FV x.c0),.det (pt (L0.b 0) 6),.det (FV x.c1),.det (FV n1),.det (PV ⟨x.c0,n1⟩),.store (.base 1) 0 (PC ⟨x.c0,n1⟩) (PC ⟨x.c0,n1⟩)] (nn 7) [0,1,0,4,12,31,63] (fun L d=>D d 0 2++([L0.p 1]++D d 3 6)) (fun L=>[(L0.b 0,PC x),(L0.b 1,PC ⟨x.c0,n1⟩)]) hp1 ⟨
  oI aP,oL 0 0 rF,oI aP,oL 0 6 rF,oR (nFR o1 (fun w=>R.neg x.c1 w trivial)),oD (buildP x.c0 n1),oT rP,
  trivial⟩ (fun L1 _ w2 hp2=>?_)
 refine wp_ret ?_
 refine bodyPost_ret (v:=PV ⟨x.c0,n1⟩) ?_ rfl ?_
 ·exact rc rP rfl (by kernel_rfl) (hp2.bound 1 rfl).2
 ·exact ⟨fin,hp2.bel⟩
theorem ref5one2 (R:RefK)  (w:World):Calls Tryz.prog 40 #[] w (Ret (PV 1) w):=by
 have hp0:=Heap.start w
 go_enter Tryz.func40,Tryz.ntmps40
 refine sgs [.alloc (PC 0)] [0] [0] (fun L=>[L.p 0,undef,undef]) (fun L=>[(L.b 0,PC 0)]) hp0 ⟨
  oZ rP,
  trivial⟩ (fun L0 w1 hp1=>?_)
 refine sgs [.det (FV 1),.det (PV ⟨1,0⟩),.store (.base 0) 0 (PC ⟨1,0⟩) (PC ⟨1,0⟩)] [0,1,2] [0,1,3] (fun L=>[L0.p 0,FV 1,PV ⟨1,0⟩]) (fun L=>[(L0.b 0,PC ⟨1,0⟩)]) hp1 ⟨
  oR R.of1,oD (buildPa 1),oT rP,
  trivial⟩ (fun L1 w2 hp2=>?_)
 refine wp_ret ?_
 refine bodyPost_ret (v:=PV ⟨1,0⟩) ?_ rfl ?_
 ·exact rc rP rfl (by kernel_rfl) (hp2.bound 0 rfl).2
 ·exact ⟨(by rw [one_mk]),hp2.bel⟩
theorem conj_mul (x:F2):x*x.conj=⟨x.norm,0⟩:=F2.ext' (by simp [F2.norm];grind) (by simp;grind)
theorem inv_conj (x:F2):x.conj*⟨finv x.norm,0⟩=x.inv:=F2.ext' (by simp [F2.inv];grind) (by simp [F2.inv];grind)
theorem ref5Inv2 (R:RefK) (x:F2) (w:World) (hn:x.norm≠0):Calls Tryz.prog 88 #[PV x] w (Ret (.tuple #[PV x.inv,.int .i64 0]) w):=by
 obtain ⟨n1,o1⟩:=nm (x.conj*⟨(finv x.norm),0⟩)
 have fin:Ending.returned (.tuple #[PV n1,.int .i64 0])=Ending.returned (.tuple #[PV x.inv,.int .i64 0]):=by subst_vars;exact (by rw [inv_conj])
 have hp0:=Heap.start w
 go_enter Tryz.func88,Tryz.ntmps88
 refine sgsD [.alloc (PC x),.alloc (PC 0),.det (.int .i64 0)] [0,1,2] [0,0,0] (fun L d=>[d 0,L.p 0,L.p 1]++D d 3 23) (fun L=>[(L.b 0,PC x),(L.b 1,PC 0)]) hp0 ⟨
  oB,oZ rP,oA,
  trivial⟩ (fun L0 _ w1 hp1=>?_)
 refine sdrD [.det (PV x),.det (PV x),.det (PV x.conj),.det (PV ⟨x.norm,0⟩),.alloc (PC 0),.store (.new 4) 0 (PC ⟨x.norm,0⟩) (PC ⟨x.norm,0⟩)] (nn 6) [0,0,2,7,0,31] (fun L d=>[d 0,L0.p 0,L0.p 1,d 3,L.p 4]++D d 5 21) (fun L=>[(L0.b 0,PC x),(L0.b 1,PC 0),(L.b 4,PC ⟨x.norm,0⟩)]) hp1 ⟨
  oL 0 0 rP,oL 0 0 rP,oR (ref5Conj2 R x),oH (v:=PV ⟨x.norm,0⟩) (vs:=#[PV x,PV x.conj]) (fun w _ _=>by have h:=ref5Mul2 R x x.conj w;rw [conj_mul] at h;exact h),
  oZ rP,oT rP,
  trivial⟩ (fun L1 _ w2 hp2=>?_)
 refine sgsD [.det (L1.p 4),.det (FV x.norm),.det (.tuple #[FV (finv x.norm),.int .i64 0]),.det (.tuple #[FV (finv x.norm),.int .i64 0]),.det (FV (finv x.norm)),.det (.int .i64 0),.alloc (FC 0),.store (.new 6) 0 (FC (finv x.norm)) (FC (finv x.norm)),.det (.int .i64 0)] (nn 9) [0,1,3,7,15,15,0,95,255] (fun L d=>[d 0,L0.p 0,L0.p 1]++(D d 3 2++([L.p 6,.int .i64 0]++D d 7 19))) (fun L=>[(L0.b 0,PC x),(L0.b 1,PC 0),(L1.b 4,PC ⟨x.norm,0⟩),(L.b 6,FC (finv x.norm))]) hp2 ⟨
  oI aP,oL 2 0 rF,oH (v:=.tuple #[FV (finv x.norm),.int .i64 0]) (vs:=#[FV x.norm]) (fun w _ _=>by have h:=R.inv x.norm w trivial hn;exact h),oM,
  oX,oX,oZ rF,oT rF,oA,
  trivial⟩ (fun L2 _ w3 hp3=>?_)
 refine wp_seq_k (fun K4 k4=>?_)
 refine sgsD [.det (.int .i64 0),.det (.bool false)] [0,1] [0,1] (fun L d=>[d 0,L0.p 0,L0.p 1]++(D d 3 2++([L2.p 6]++(D d 6 12++([.bool false]++D d 19 7))))) (fun L=>[(L0.b 0,PC x),(L0.b 1,PC 0),(L1.b 4,PC ⟨x.norm,0⟩),(L2.b 6,FC (finv x.norm))]) hp3 ⟨
  oM,oJ .i64 .i64 0 0 (h:=fun w=>(neqI _ _ _ _ w).trans rfl),
  trivial⟩ (fun L3 _ w4 hp4=>?_)
 refine cfk (k4 _ _ ?_)
 refine sdrD [.det (PV x),.det (PV x.conj),.det (FV (finv x.norm)),.det (PV ⟨(finv x.norm),0⟩),.det (PV n1),.store (.base 1) 0 (PC n1) (PC n1),.det (.int .i64 0)] (nn 7) [0,1,0,4,15,31,63] (fun L d=>D d 0 2++([L0.p 1,.int .i64 0]++D d 4 22)) (fun L=>[(L0.b 0,PC x),(L0.b 1,PC n1),(L1.b 4,PC ⟨x.norm,0⟩),(L2.b 6,FC (finv x.norm))]) hp4 ⟨
  oL 0 0 rP,oR (ref5Conj2 R x),oL 3 0 rF,oD (buildPa (finv x.norm)),oR (nPR o1 (ref5Mul2 R x.conj ⟨(finv x.norm),0⟩)),oT rP,oA,
  trivial⟩ (fun L4 _ w5 hp5=>?_)
 refine wp_ret ?_
 refine bodyPost_ret (v:=.tuple #[PV n1,.int .i64 0]) ?_ rfl ?_
 ·exact rct rP rfl (by kernel_rfl) (by kernel_rfl) (hp5.bound 1 rfl).2
 ·exact ⟨fin,hp5.bel⟩
theorem ref5Inv20 (R:RefK) (x:F2) (w:World) (hn:x.norm=0):Calls Tryz.prog 88 #[PV x] w (Ret (.tuple #[PV 0,.int .i64 7]) w):=by
 have hp0:=Heap.start w
 go_enter Tryz.func88,Tryz.ntmps88
 refine sgsD [.alloc (PC x),.alloc (PC 0),.det (.int .i64 0)] [0,1,2] [0,0,0] (fun L d=>[d 0,L.p 0,L.p 1]++D d 3 23) (fun L=>[(L.b 0,PC x),(L.b 1,PC 0)]) hp0 ⟨
  oB,oZ rP,oA,
  trivial⟩ (fun L0 _ w1 hp1=>?_)
 refine sdrD [.det (PV x),.det (PV x),.det (PV x.conj),.det (PV ⟨0,0⟩),.alloc (PC 0),.store (.new 4) 0 (PC ⟨0,0⟩) (PC ⟨0,0⟩)] (nn 6) [0,0,2,7,0,31] (fun L d=>D d 0 2++([L0.p 1,d 3,L.p 4]++D d 5 21)) (fun L=>[(L0.b 0,PC x),(L0.b 1,PC 0),(L.b 4,PC ⟨0,0⟩)]) hp1 ⟨
  oL 0 0 rP,oL 0 0 rP,oR (ref5Conj2 R x),oH (v:=PV ⟨0,0⟩) (vs:=#[PV x,PV x.conj]) (fun w _ _=>by have h:=ref5Mul2 R x x.conj w;rw [conj_mul,hn] at h;exact h),
  oZ rP,oT rP,
  trivial⟩ (fun L1 _ w2 hp2=>?_)
 refine sgsD [.det (L1.p 4),.det (FV 0),.det (.tuple #[FV 0,.int .i64 7]),.det (.tuple #[FV 0,.int .i64 7]),.det (FV 0),.det (.int .i64 7),.alloc (FC 0),.store (.new 6) 0 (FC 0) (FC 0),.det (.int .i64 7)] (nn 9) [0,1,3,7,15,15,0,95,255] (fun L d=>D d 0 2++([L0.p 1]++(D d 3 3++([.int .i64 7]++D d 7 19)))) (fun L=>[(L0.b 0,PC x),(L0.b 1,PC 0),(L1.b 4,PC ⟨0,0⟩),(L.b 6,FC 0)]) hp2 ⟨
  oI aP,oL 2 0 rF,oR (fun w=>R.inv0 w trivial),oM,oX,oX,oZ rF,oT rF,oA,
  trivial⟩ (fun L2 _ w3 hp3=>?_)
 refine wp_seq_k (fun K4 k4=>?_)
 refine sgsD [.det (.int .i64 7),.det (.bool true)] [0,1] [0,1] (fun L d=>D d 0 2++([L0.p 1]++(D d 3 3++([.int .i64 7]++(D d 7 11++([.bool true]++D d 19 7)))))) (fun L=>[(L0.b 0,PC x),(L0.b 1,PC 0),(L1.b 4,PC ⟨0,0⟩),(L2.b 6,FC 0)]) hp3 ⟨
  oM,oJ .i64 .i64 7 0 (h:=fun w=>(neqI _ _ _ _ w).trans rfl),
  trivial⟩ (fun L3 _ w4 hp4=>?_)
 refine cT ?_
 refine sgsD [.det (PV 0),.det (.int .i64 7),.store (.base 1) 0 (PC 0) (PC 0),.det (.int .i64 7)] [0,1,2,3] [0,0,1,7] (fun L d=>D d 0 2++([L0.p 1,.int .i64 7]++D d 4 22)) (fun L=>[(L0.b 0,PC x),(L0.b 1,PC 0),(L1.b 4,PC ⟨0,0⟩),(L2.b 6,FC 0)]) hp4 ⟨
  oD buildP0,oM,oT rP,oA,
  trivial⟩ (fun L4 _ w5 hp5=>?_)
 refine wp_ret ?_
 refine bodyPost_ret (v:=.tuple #[PV 0,.int .i64 7]) ?_ rfl ?_
 ·exact rct rP rfl (by kernel_rfl) (by kernel_rfl) (hp5.bound 1 rfl).2
 ·exact ⟨rfl,hp5.bel⟩
theorem ref5May2 (R:RefK) (f g:Nat→Int) (w:World) (rf:Rg f 6) (rg:Rg g 6) (lf:val f 6<RI) (lg:val g 6<RI):Calls Tryz.prog 72 #[QV2 f g] w (Ret (.bool true) w):=by
 have hp0:=Heap.start w
 go_enter Tryz.func72,Tryz.ntmps72
 refine sgsD [.alloc (QC2 f g),.det (.bool false)] [0,1] [0,0] (fun L d=>[d 0,L.p 0]++D d 2 9) (fun L=>[(L.b 0,QC2 f g)]) hp0 ⟨
  oB,oA,
  trivial⟩ (fun L0 _ w1 hp1=>?_)
 refine sgsD [.det (L0.p 0),.det (QV f),.det (.bool true),.det (.bool true),.det (pt (L0.b 0) 6),.det (QV g),.det (.bool true),.det (.bool true),.det (.bool true)] (nn 9) [0,1,3,7,15,31,63,127,255] (fun L d=>D d 0 2++([.bool true]++D d 3 8)) (fun L=>[(L0.b 0,QC2 f g)]) hp1 ⟨
  oI aP,oL 0 0 rF,oH (v:=.bool true) (vs:=#[QV f]) (fun w _ _=>by have h:=R.may f w trivial rf;rw [decide_eq_true lf] at h;exact h),oM,oI aP,oL 0 6 rF,
  oH (v:=.bool true) (vs:=#[QV g]) (fun w _ _=>by have h:=R.may g w trivial rg;rw [decide_eq_true lg] at h;exact h),oP,oA,
  trivial⟩ (fun L1 _ w2 hp2=>?_)
 refine wp_ret ?_
 refine bodyPost_ret (v:=.bool true) ?_ rfl ?_
 ·exact res_t rfl (by kernel_rfl) _
 ·exact ⟨rfl,hp2.bel⟩
theorem ref5May20 (R:RefK) (f g:Nat→Int) (w:World) (rf:Rg f 6) (lf:¬ val f 6<RI):Calls Tryz.prog 72 #[QV2 f g] w (Ret (.bool false) w):=by
 have hp0:=Heap.start w
 go_enter Tryz.func72,Tryz.ntmps72
 refine sgsD [.alloc (QC2 f g),.det (.bool false)] [0,1] [0,0] (fun L d=>[d 0,L.p 0]++D d 2 9) (fun L=>[(L.b 0,QC2 f g)]) hp0 ⟨
  oB,oA,
  trivial⟩ (fun L0 _ w1 hp1=>?_)
 refine sgsD [.det (L0.p 0),.det (QV f),.det (.bool false),.det (.bool false),.det undef,.det undef,.det undef,.det (.bool false),.det (.bool false)] (nn 9) [0,1,3,7,15,31,63,127,255] (fun L d=>D d 0 2++([.bool false]++D d 3 8)) (fun L=>[(L0.b 0,QC2 f g)]) hp1 ⟨
  oI aP,oL 0 0 rF,oH (v:=.bool false) (vs:=#[QV f]) (fun w _ _=>by have h:=R.may f w trivial rf;rw [decide_eq_false lf] at h;exact h),oM,oS,oS,
  oS,oP,oA,
  trivial⟩ (fun L1 _ w2 hp2=>?_)
 refine wp_ret ?_
 refine bodyPost_ret (v:=.bool false) ?_ rfl ?_
 ·exact res_t rfl (by kernel_rfl) _
 ·exact ⟨rfl,hp2.bel⟩
theorem ref5May21 (R:RefK) (f g:Nat→Int) (w:World) (rf:Rg f 6) (rg:Rg g 6) (lf:val f 6<RI) (lg:¬ val g 6<RI):Calls Tryz.prog 72 #[QV2 f g] w (Ret (.bool false) w):=by
 have hp0:=Heap.start w
 go_enter Tryz.func72,Tryz.ntmps72
 refine sgsD [.alloc (QC2 f g),.det (.bool false)] [0,1] [0,0] (fun L d=>[d 0,L.p 0]++D d 2 9) (fun L=>[(L.b 0,QC2 f g)]) hp0 ⟨
  oB,oA,
  trivial⟩ (fun L0 _ w1 hp1=>?_)
 refine sgsD [.det (L0.p 0),.det (QV f),.det (.bool true),.det (.bool true),.det (pt (L0.b 0) 6),.det (QV g),.det (.bool false),.det (.bool false),.det (.bool false)] (nn 9) [0,1,3,7,15,31,63,127,255] (fun L d=>D d 0 2++([.bool false]++D d 3 8)) (fun L=>[(L0.b 0,QC2 f g)]) hp1 ⟨
  oI aP,oL 0 0 rF,oH (v:=.bool true) (vs:=#[QV f]) (fun w _ _=>by have h:=R.may f w trivial rf;rw [decide_eq_true lf] at h;exact h),oM,oI aP,oL 0 6 rF,
  oH (v:=.bool false) (vs:=#[QV g]) (fun w _ _=>by have h:=R.may g w trivial rg;rw [decide_eq_false lg] at h;exact h),oP,oA,
  trivial⟩ (fun L1 _ w2 hp2=>?_)
 refine wp_ret ?_
 refine bodyPost_ret (v:=.bool false) ?_ rfl ?_
 ·exact res_t rfl (by kernel_rfl) _
 ·exact ⟨rfl,hp2.bel⟩
end Go.Proofs.YthnfgmhehfombaaGreatDoor.fpn
/- The reference's threes. -/
namespace Go.Proofs.YthnfgmhehfombaaGreatDoor.fpn
open Go.RowKit Pl
section
open Rn
variable {α:Type} [Add α] [Mul α] [Neg α] [Sub α] [OfNat α 0] [OfNat α 1] [CR α]
theorem rt6_1 (a0 a1 a2 b0 b1 b2 k:α):((0+(a0*b0))+(((0+(a1*b2))+(a2*b1))*k))=((a0*b0)+(k*((a1*b2)+(a2*b1)))):=ring [a0,a1,a2,b0,b1,b2,k] (.a (.a (.k 0) (.m (.v 0) (.v 3))) (.m (.a (.a (.k 0) (.m (.v 1) (.v 5))) (.m (.v 2) (.v 4))) (.v 6))) (.a (.m (.v 0) (.v 3)) (.m (.v 6) (.a (.m (.v 1) (.v 5)) (.m (.v 2) (.v 4))))) (by kernel_rfl)
theorem rt6_2 (a0 a1 a2 b0 b1 b2 k:α):(((0+(a0*b1))+(a1*b0))+((0+(a2*b2))*k))=(((a0*b1)+(a1*b0))+(k*(a2*b2))):=ring [a0,a1,a2,b0,b1,b2,k] (.a (.a (.a (.k 0) (.m (.v 0) (.v 4))) (.m (.v 1) (.v 3))) (.m (.a (.k 0) (.m (.v 2) (.v 5))) (.v 6))) (.a (.a (.m (.v 0) (.v 4)) (.m (.v 1) (.v 3))) (.m (.v 6) (.m (.v 2) (.v 5)))) (by kernel_rfl)
theorem rt6_3 (a0 a1 a2 b0 b1 b2:α):(((0+(a0*b2))+(a1*b1))+(a2*b0))=(((a0*b2)+(a1*b1))+(a2*b0)):=ring [a0,a1,a2,b0,b1,b2] (.a (.a (.a (.k 0) (.m (.v 0) (.v 5))) (.m (.v 1) (.v 4))) (.m (.v 2) (.v 3))) (.a (.a (.m (.v 0) (.v 5)) (.m (.v 1) (.v 4))) (.m (.v 2) (.v 3))) (by kernel_rfl)
end
theorem ref5xi (R:RefK)  (w:World):Calls Tryz.prog 87 #[] w (Ret (PV xi) w):=by
 have hp0:=Heap.start w
 go_enter Tryz.func87,Tryz.ntmps87
 refine sgsD [.alloc (PC 0)] [0] [0] (fun L d=>[L.p 0]++D d 1 3) (fun L=>[(L.b 0,PC 0)]) hp0 ⟨
  oZ rP,
  trivial⟩ (fun L0 _ w1 hp1=>?_)
 refine sgsD [.det (FV 1),.det (FV 1),.det (PV ⟨1,1⟩),.store (.base 0) 0 (PC ⟨1,1⟩) (PC ⟨1,1⟩)] [0,1,2,3] [0,1,3,7] (fun L d=>[L0.p 0]++D d 1 3) (fun L=>[(L0.b 0,PC ⟨1,1⟩)]) hp1 ⟨
  oR R.of1,oR R.of1,oD (buildP 1 1),oT rP,
  trivial⟩ (fun L1 _ w2 hp2=>?_)
 refine wp_ret ?_
 refine bodyPost_ret (v:=PV ⟨1,1⟩) ?_ rfl ?_
 ·exact rc rP rfl (by kernel_rfl) (hp2.bound 0 rfl).2
 ·exact ⟨rfl,hp2.bel⟩
theorem ref5Add6 (R:RefK) (x y:F6) (w:World):Calls Tryz.prog 52 #[V6 x,V6 y] w (Ret (V6 (x+y)) w):=by
 have hp0:=Heap.start w
 go_enter Tryz.func52,Tryz.ntmps52
 refine sgs [.alloc (C6 x),.alloc (C6 y),.alloc (C6 0)] [0,1,2] [0,0,0] (fun L=>[V6 x,V6 y,L.p 0,L.p 1,L.p 2]++U 16) (fun L=>[(L.b 0,C6 x),(L.b 1,C6 y),(L.b 2,C6 0)]) hp0 ⟨
  oB,oB,oZ r6,
  trivial⟩ (fun L0 w1 hp1=>?_)
 refine sdrD [.det (L0.p 0),.det (PV x.c0),.det (L0.p 1),.det (PV y.c0),.det (PV (x.c0+y.c0)),.det (pt (L0.b 0) 12),.det (PV x.c1),.det (pt (L0.b 1) 12),.det (PV y.c1),.det (PV (x.c1+y.c1)),.det (pt (L0.b 0) 24),.det (PV x.c2),.det (pt (L0.b 1) 24),.det (PV y.c2),.det (PV (x.c2+y.c2)),.det (V6 ⟨(x.c0+y.c0),(x.c1+y.c1),(x.c2+y.c2)⟩),.store (.base 2) 0 (C6 ⟨(x.c0+y.c0),(x.c1+y.c1),(x.c2+y.c2)⟩) (C6 ⟨(x.c0+y.c0),(x.c1+y.c1),(x.c2+y.c2)⟩)] (nn 17) [0,1,0,4,15,0,32,0,128,511,0,1024,0,4096,16383,32767,65535] (fun L d=>D d 0 4++([L0.p 2]++D d 5 16)) (fun L=>[(L0.b 0,C6 x),(L0.b 1,C6 y),(L0.b 2,C6 ⟨(x.c0+y.c0),(x.c1+y.c1),(x.c2+y.c2)⟩)]) hp1 ⟨
  oI a6,oL 0 0 rP,oI a6,oL 1 0 rP,oR (ref5Add2 R x.c0 y.c0),oI a6,oL 0 12 rP,oI a6,oL 1 12 rP,oR (ref5Add2 R x.c1 y.c1),oI a6,oL 0 24 rP,oI a6,oL 1 24 rP,
  oR (ref5Add2 R x.c2 y.c2),oD (build6012 (x.c0+y.c0) (x.c1+y.c1) (x.c2+y.c2)),oT r6,
  trivial⟩ (fun L1 _ w2 hp2=>?_)
 refine wp_ret ?_
 refine bodyPost_ret (v:=V6 ⟨(x.c0+y.c0),(x.c1+y.c1),(x.c2+y.c2)⟩) ?_ rfl ?_
 ·exact rc r6 rfl (by kernel_rfl) (hp2.bound 2 rfl).2
 ·exact ⟨rfl,hp2.bel⟩
theorem ref5Mul6 (R:RefK) (x y:F6) (w:World):Calls Tryz.prog 53 #[V6 x,V6 y] w (Ret (V6 (x*y)) w):=by
 have hp0:=Heap.start w
 go_enter Tryz.func53,Tryz.ntmps53
 refine sgs [.alloc (C6 x),.alloc (C6 y),.alloc (C6 0)] [0,1,2] [0,0,0] (fun L=>[V6 x,V6 y,L.p 0,L.p 1,L.p 2]++U 45) (fun L=>[(L.b 0,C6 x),(L.b 1,C6 y),(L.b 2,C6 0)]) hp0 ⟨
  oB,oB,oZ r6,
  trivial⟩ (fun L0 w1 hp1=>?_)
 refine sgs [.alloc (C5 ⟨0,0,0,0,0⟩)] [0] [0] (fun L=>[V6 x,V6 y,L0.p 0,L0.p 1,L0.p 2,L.p 0]++U 44) (fun L=>[(L0.b 0,C6 x),(L0.b 1,C6 y),(L0.b 2,C6 0),(L.b 0,C5 ⟨0,0,0,0,0⟩)]) hp1 ⟨
  oZ r5,
  trivial⟩ (fun L1 w2 hp2=>?_)
 refine wp_seq_k (fun K3 k3=>?_)
 refine sgs [.det (.int .i64 0)] [0] [0] (fun L=>[V6 x,V6 y,L0.p 0,L0.p 1,L0.p 2,L1.p 0,.int .i64 0]++U 43) (fun L=>[(L0.b 0,C6 x),(L0.b 1,C6 y),(L0.b 2,C6 0),(L1.b 0,C5 ⟨0,0,0,0,0⟩)]) hp2 ⟨
  oA,
  trivial⟩ (fun L2 w3 hp3=>?_)
 refine wp_block_k (fun K5 k5=>?_)
 refine wp_loop_rounds 9 ?_
 refine rounds_k (fun K6 k6=>?_)
 refine wp_seq_k (fun K7 k7=>?_)
 refine sgsD [.det (.int .i64 0),.det (.bool true)] [0,1] [0,1] (fun L d=>D d 0 2++([L0.p 0,L0.p 1,L0.p 2,L1.p 0,.int .i64 0,undef,d 8,.bool true]++U 40)) (fun L=>[(L0.b 0,C6 x),(L0.b 1,C6 y),(L0.b 2,C6 0),(L1.b 0,C5 ⟨0,0,0,0,0⟩)]) hp3 ⟨
  oM,oJ .i64 .i64 0 3,
  trivial⟩ (fun L3 _ w4 hp4=>?_)
 refine cT ?_
 refine skips ?_
 refine k7 _ _ ?_
 refine wp_seq_k (fun K9 k9=>?_)
 refine wp_block_k (fun K10 k10=>?_)
 refine sgsD [.det (.int .i64 0)] [0] [0] (fun L d=>D d 0 2++([L0.p 0,L0.p 1,L0.p 2,L1.p 0,.int .i64 0,.int .i64 0]++D d 8 42)) (fun L=>[(L0.b 0,C6 x),(L0.b 1,C6 y),(L0.b 2,C6 0),(L1.b 0,C5 ⟨0,0,0,0,0⟩)]) hp4 ⟨
  oA,
  trivial⟩ (fun L4 _ w5 hp5=>?_)
 refine wp_block_k (fun K12 k12=>?_)
 refine wp_loop_rounds 9 ?_
 refine rounds_k (fun K13 k13=>?_)
 refine wp_seq_k (fun K14 k14=>?_)
 refine sgsD [.det (.int .i64 0),.det (.bool true)] [0,1] [0,1] (fun L d=>D d 0 2++([L0.p 0,L0.p 1,L0.p 2,L1.p 0,.int .i64 0,.int .i64 0]++(D d 8 5++([.bool true]++D d 14 36)))) (fun L=>[(L0.b 0,C6 x),(L0.b 1,C6 y),(L0.b 2,C6 0),(L1.b 0,C5 ⟨0,0,0,0,0⟩)]) hp5 ⟨
  oM,oJ .i64 .i64 0 3,
  trivial⟩ (fun L5 _ w6 hp6=>?_)
 refine cT ?_
 refine skips ?_
 refine k14 _ _ ?_
 refine wp_seq_k (fun K16 k16=>?_)
 refine wp_block_k (fun K17 k17=>?_)
 refine drD [.det (.int .i64 0),.det (.int .i64 0),.det (.int .i64 0),.det (.int .i64 0),.det (.int .i64 0),.det (.int .i64 0),.det (L1.p 0),.det (PV 0),.det (.int .i64 0),.det (L0.p 0),.det (PV x.c0),.det (.int .i64 0),.det (L0.p 1),.det (PV y.c0),.det (PV (x.c0*y.c0)),.det (PV (0+(x.c0*y.c0))),.det (L1.p 0),.store (.base 3) 0 (PC (0+(x.c0*y.c0))) (C5 ⟨(0+(x.c0*y.c0)),0,0,0,0⟩)] (nn 18) [0,0,3,0,0,24,56,120,0,256,768,0,2048,6144,16128,32760,65535,131071] (fun L d=>D d 0 2++([L0.p 0,L0.p 1,L0.p 2,L1.p 0,.int .i64 0,.int .i64 0]++D d 8 42)) (fun L=>[(L0.b 0,C6 x),(L0.b 1,C6 y),(L0.b 2,C6 0),(L1.b 0,C5 ⟨(0+(x.c0*y.c0)),0,0,0,0⟩)]) hp6 ⟨
  oM,oM,oJ .i64 .i64 0 0,oM,oM,oJ .i64 .i64 0 0,oI a5,oL 3 0 rP,oM,oI a6,oL 0 0 rP,oM,oI a6,oL 1 0 rP,oR (ref5Mul2 R x.c0 y.c0),oR (ref5Add2 R 0 (x.c0*y.c0)),
  oI a5,oT rP,
  trivial⟩ (fun L6 _ w7 hp7=>?_)
 refine k17 _ _ _ ?_
 refine block_normal ?_
 refine k16 _ _ ?_
 refine gsD [.det (.int .i64 0),.det (.int .i64 1),.det (.int .i64 1)] [0,1,2] [0,1,3] (fun L d=>D d 0 2++([L0.p 0,L0.p 1,L0.p 2,L1.p 0,.int .i64 0,.int .i64 1]++D d 8 42)) (fun L=>[(L0.b 0,C6 x),(L0.b 1,C6 y),(L0.b 2,C6 0),(L1.b 0,C5 ⟨(0+(x.c0*y.c0)),0,0,0,0⟩)]) hp7 ⟨
  oM,oJ .i64 .i64 0 1,oA,
  trivial⟩ (fun L7 _ w8 hp8=>?_)
 refine k13 _ _ _ ?_
 refine then_normal ?_
 refine rounds_k (fun K18 k18=>?_)
 refine wp_seq_k (fun K19 k19=>?_)
 refine sgsD [.det (.int .i64 1),.det (.bool true)] [0,1] [0,1] (fun L d=>D d 0 2++([L0.p 0,L0.p 1,L0.p 2,L1.p 0,.int .i64 0,.int .i64 1]++(D d 8 5++([.bool true]++D d 14 36)))) (fun L=>[(L0.b 0,C6 x),(L0.b 1,C6 y),(L0.b 2,C6 0),(L1.b 0,C5 ⟨(0+(x.c0*y.c0)),0,0,0,0⟩)]) hp8 ⟨
  oM,oJ .i64 .i64 1 3,
  trivial⟩ (fun L8 _ w9 hp9=>?_)
 refine cT ?_
 refine skips ?_
 refine k19 _ _ ?_
 refine wp_seq_k (fun K21 k21=>?_)
 refine wp_block_k (fun K22 k22=>?_)
 refine drD [.det (.int .i64 0),.det (.int .i64 1),.det (.int .i64 1),.det (.int .i64 0),.det (.int .i64 1),.det (.int .i64 1),.det (pt (L1.b 0) 12),.det (PV 0),.det (.int .i64 0),.det (L0.p 0),.det (PV x.c0),.det (.int .i64 1),.det (pt (L0.b 1) 12),.det (PV y.c1),.det (PV (x.c0*y.c1)),.det (PV (0+(x.c0*y.c1))),.det (pt (L1.b 0) 12),.store (.base 3) 12 (PC (0+(x.c0*y.c1))) (C5 ⟨(0+(x.c0*y.c0)),(0+(x.c0*y.c1)),0,0,0⟩)] (nn 18) [0,0,3,0,0,24,56,120,0,256,768,0,2048,6144,16128,32760,65535,131071] (fun L d=>D d 0 2++([L0.p 0,L0.p 1,L0.p 2,L1.p 0,.int .i64 0,.int .i64 1]++D d 8 42)) (fun L=>[(L0.b 0,C6 x),(L0.b 1,C6 y),(L0.b 2,C6 0),(L1.b 0,C5 ⟨(0+(x.c0*y.c0)),(0+(x.c0*y.c1)),0,0,0⟩)]) hp9 ⟨
  oM,oM,oJ .i64 .i64 0 1,oM,oM,oJ .i64 .i64 0 1,oI a5,oL 3 12 rP,oM,oI a6,oL 0 0 rP,oM,oI a6,oL 1 12 rP,oR (ref5Mul2 R x.c0 y.c1),oR (ref5Add2 R 0 (x.c0*y.c1)),
  oI a5,oT rP,
  trivial⟩ (fun L9 _ w10 hp10=>?_)
 refine k22 _ _ _ ?_
 refine block_normal ?_
 refine k21 _ _ ?_
 refine gsD [.det (.int .i64 1),.det (.int .i64 2),.det (.int .i64 2)] [0,1,2] [0,1,3] (fun L d=>D d 0 2++([L0.p 0,L0.p 1,L0.p 2,L1.p 0,.int .i64 0,.int .i64 2]++D d 8 42)) (fun L=>[(L0.b 0,C6 x),(L0.b 1,C6 y),(L0.b 2,C6 0),(L1.b 0,C5 ⟨(0+(x.c0*y.c0)),(0+(x.c0*y.c1)),0,0,0⟩)]) hp10 ⟨
  oM,oJ .i64 .i64 1 1,oA,
  trivial⟩ (fun L10 _ w11 hp11=>?_)
 refine k18 _ _ _ ?_
 refine then_normal ?_
 refine rounds_k (fun K23 k23=>?_)
 refine wp_seq_k (fun K24 k24=>?_)
 refine sgsD [.det (.int .i64 2),.det (.bool true)] [0,1] [0,1] (fun L d=>D d 0 2++([L0.p 0,L0.p 1,L0.p 2,L1.p 0,.int .i64 0,.int .i64 2]++(D d 8 5++([.bool true]++D d 14 36)))) (fun L=>[(L0.b 0,C6 x),(L0.b 1,C6 y),(L0.b 2,C6 0),(L1.b 0,C5 ⟨(0+(x.c0*y.c0)),(0+(x.c0*y.c1)),0,0,0⟩)]) hp11 ⟨
  oM,oJ .i64 .i64 2 3,
  trivial⟩ (fun L11 _ w12 hp12=>?_)
 refine cT ?_
 refine skips ?_
 refine k24 _ _ ?_
 refine wp_seq_k (fun K26 k26=>?_)
 refine wp_block_k (fun K27 k27=>?_)
 refine drD [.det (.int .i64 0),.det (.int .i64 2),.det (.int .i64 2),.det (.int .i64 0),.det (.int .i64 2),.det (.int .i64 2),.det (pt (L1.b 0) 24),.det (PV 0),.det (.int .i64 0),.det (L0.p 0),.det (PV x.c0),.det (.int .i64 2),.det (pt (L0.b 1) 24),.det (PV y.c2),.det (PV (x.c0*y.c2)),.det (PV (0+(x.c0*y.c2))),.det (pt (L1.b 0) 24),.store (.base 3) 24 (PC (0+(x.c0*y.c2))) (C5 ⟨(0+(x.c0*y.c0)),(0+(x.c0*y.c1)),(0+(x.c0*y.c2)),0,0⟩)] (nn 18) [0,0,3,0,0,24,56,120,0,256,768,0,2048,6144,16128,32760,65535,131071] (fun L d=>D d 0 2++([L0.p 0,L0.p 1,L0.p 2,L1.p 0,.int .i64 0,.int .i64 2]++D d 8 42)) (fun L=>[(L0.b 0,C6 x),(L0.b 1,C6 y),(L0.b 2,C6 0),(L1.b 0,C5 ⟨(0+(x.c0*y.c0)),(0+(x.c0*y.c1)),(0+(x.c0*y.c2)),0,0⟩)]) hp12 ⟨
  oM,oM,oJ .i64 .i64 0 2,oM,oM,oJ .i64 .i64 0 2,oI a5,oL 3 24 rP,oM,oI a6,oL 0 0 rP,oM,oI a6,oL 1 24 rP,oR (ref5Mul2 R x.c0 y.c2),oR (ref5Add2 R 0 (x.c0*y.c2)),
  oI a5,oT rP,
  trivial⟩ (fun L12 _ w13 hp13=>?_)
 refine k27 _ _ _ ?_
 refine block_normal ?_
 refine k26 _ _ ?_
 refine gsD [.det (.int .i64 2),.det (.int .i64 3),.det (.int .i64 3)] [0,1,2] [0,1,3] (fun L d=>D d 0 2++([L0.p 0,L0.p 1,L0.p 2,L1.p 0,.int .i64 0,.int .i64 3]++D d 8 42)) (fun L=>[(L0.b 0,C6 x),(L0.b 1,C6 y),(L0.b 2,C6 0),(L1.b 0,C5 ⟨(0+(x.c0*y.c0)),(0+(x.c0*y.c1)),(0+(x.c0*y.c2)),0,0⟩)]) hp13 ⟨
  oM,oJ .i64 .i64 2 1,oA,
  trivial⟩ (fun L13 _ w14 hp14=>?_)
 refine k23 _ _ _ ?_
 refine then_normal ?_
 refine rounds_k (fun K28 k28=>?_)
 refine wp_seq_k (fun K29 k29=>?_)
 refine sgsD [.det (.int .i64 3),.det (.bool false)] [0,1] [0,1] (fun L d=>D d 0 2++([L0.p 0,L0.p 1,L0.p 2,L1.p 0,.int .i64 0]++(D d 7 6++([.bool false]++D d 14 36)))) (fun L=>[(L0.b 0,C6 x),(L0.b 1,C6 y),(L0.b 2,C6 0),(L1.b 0,C5 ⟨(0+(x.c0*y.c0)),(0+(x.c0*y.c1)),(0+(x.c0*y.c2)),0,0⟩)]) hp14 ⟨
  oM,oJ .i64 .i64 3 3,
  trivial⟩ (fun L14 _ w15 hp15=>?_)
 refine cF ?_
 refine wp_exit ?_
 refine then_exit ?_
 refine k28 _ _ _ ?_
 refine then_exit ?_
 refine k12 _ _ _ ?_
 refine exit_in ?_
 refine k10 _ _ _ ?_
 refine block_normal ?_
 refine k9 _ _ ?_
 refine gsD [.det (.int .i64 0),.det (.int .i64 1),.det (.int .i64 1)] [0,1,2] [0,1,3] (fun L d=>D d 0 2++([L0.p 0,L0.p 1,L0.p 2,L1.p 0,.int .i64 1]++D d 7 43)) (fun L=>[(L0.b 0,C6 x),(L0.b 1,C6 y),(L0.b 2,C6 0),(L1.b 0,C5 ⟨(0+(x.c0*y.c0)),(0+(x.c0*y.c1)),(0+(x.c0*y.c2)),0,0⟩)]) hp15 ⟨
  oM,oJ .i64 .i64 0 1,oA,
  trivial⟩ (fun L15 d15 w16 hp16=>?_)
 refine k6 _ _ _ ?_
 refine then_normal ?_
 refine rounds_k (fun K31 k31=>?_)
 refine wp_seq_k (fun K32 k32=>?_)
 refine sgs [.det (.int .i64 1),.det (.bool true)] [0,1] [0,1] (fun L=>D d15 0 2++([L0.p 0,L0.p 1,L0.p 2,L1.p 0,.int .i64 1,d15 7,.int .i64 1,.bool true]++D d15 10 40)) (fun L=>[(L0.b 0,C6 x),(L0.b 1,C6 y),(L0.b 2,C6 0),(L1.b 0,C5 ⟨(0+(x.c0*y.c0)),(0+(x.c0*y.c1)),(0+(x.c0*y.c2)),0,0⟩)]) hp16 ⟨
  oM,oJ .i64 .i64 1 3,
  trivial⟩ (fun L16 w17 hp17=>?_)
 refine cT ?_
 refine skips ?_
 refine k32 _ _ ?_
 refine wp_seq_k (fun K34 k34=>?_)
 refine wp_block_k (fun K35 k35=>?_)
 refine sgsD [.det (.int .i64 0)] [0] [0] (fun L d=>D d 0 2++([L0.p 0,L0.p 1,L0.p 2,L1.p 0,.int .i64 1,.int .i64 0]++D d 8 42)) (fun L=>[(L0.b 0,C6 x),(L0.b 1,C6 y),(L0.b 2,C6 0),(L1.b 0,C5 ⟨(0+(x.c0*y.c0)),(0+(x.c0*y.c1)),(0+(x.c0*y.c2)),0,0⟩)]) hp17 ⟨
  oA,
  trivial⟩ (fun L17 _ w18 hp18=>?_)
 refine wp_block_k (fun K37 k37=>?_)
 refine wp_loop_rounds 9 ?_
 refine rounds_k (fun K38 k38=>?_)
 refine wp_seq_k (fun K39 k39=>?_)
 refine sgsD [.det (.int .i64 0),.det (.bool true)] [0,1] [0,1] (fun L d=>D d 0 2++([L0.p 0,L0.p 1,L0.p 2,L1.p 0,.int .i64 1,.int .i64 0]++(D d 8 5++([.bool true]++D d 14 36)))) (fun L=>[(L0.b 0,C6 x),(L0.b 1,C6 y),(L0.b 2,C6 0),(L1.b 0,C5 ⟨(0+(x.c0*y.c0)),(0+(x.c0*y.c1)),(0+(x.c0*y.c2)),0,0⟩)]) hp18 ⟨
  oM,oJ .i64 .i64 0 3,
  trivial⟩ (fun L18 _ w19 hp19=>?_)
 refine cT ?_
 refine skips ?_
 refine k39 _ _ ?_
 refine wp_seq_k (fun K41 k41=>?_)
 refine wp_block_k (fun K42 k42=>?_)
 refine drD [.det (.int .i64 1),.det (.int .i64 0),.det (.int .i64 1),.det (.int .i64 1),.det (.int .i64 0),.det (.int .i64 1),.det (pt (L1.b 0) 12),.det (PV (0+(x.c0*y.c1))),.det (.int .i64 1),.det (pt (L0.b 0) 12),.det (PV x.c1),.det (.int .i64 0),.det (L0.p 1),.det (PV y.c0),.det (PV (x.c1*y.c0)),.det (PV ((0+(x.c0*y.c1))+(x.c1*y.c0))),.det (pt (L1.b 0) 12),.store (.base 3) 12 (PC ((0+(x.c0*y.c1))+(x.c1*y.c0))) (C5 ⟨(0+(x.c0*y.c0)),((0+(x.c0*y.c1))+(x.c1*y.c0)),(0+(x.c0*y.c2)),0,0⟩)] (nn 18) [0,0,3,0,0,24,56,120,0,256,768,0,2048,6144,16128,32760,65535,131071] (fun L d=>D d 0 2++([L0.p 0,L0.p 1,L0.p 2,L1.p 0,.int .i64 1,.int .i64 0]++D d 8 42)) (fun L=>[(L0.b 0,C6 x),(L0.b 1,C6 y),(L0.b 2,C6 0),(L1.b 0,C5 ⟨(0+(x.c0*y.c0)),((0+(x.c0*y.c1))+(x.c1*y.c0)),(0+(x.c0*y.c2)),0,0⟩)]) hp19 ⟨
  oM,oM,oJ .i64 .i64 1 0,oM,oM,oJ .i64 .i64 1 0,oI a5,oL 3 12 rP,oM,oI a6,oL 0 12 rP,oM,oI a6,oL 1 0 rP,oR (ref5Mul2 R x.c1 y.c0),oR (ref5Add2 R (0+(x.c0*y.c1)) (x.c1*y.c0)),
  oI a5,oT rP,
  trivial⟩ (fun L19 _ w20 hp20=>?_)
 refine k42 _ _ _ ?_
 refine block_normal ?_
 refine k41 _ _ ?_
 refine gsD [.det (.int .i64 0),.det (.int .i64 1),.det (.int .i64 1)] [0,1,2] [0,1,3] (fun L d=>D d 0 2++([L0.p 0,L0.p 1,L0.p 2,L1.p 0,.int .i64 1,.int .i64 1]++D d 8 42)) (fun L=>[(L0.b 0,C6 x),(L0.b 1,C6 y),(L0.b 2,C6 0),(L1.b 0,C5 ⟨(0+(x.c0*y.c0)),((0+(x.c0*y.c1))+(x.c1*y.c0)),(0+(x.c0*y.c2)),0,0⟩)]) hp20 ⟨
  oM,oJ .i64 .i64 0 1,oA,
  trivial⟩ (fun L20 _ w21 hp21=>?_)
 refine k38 _ _ _ ?_
 refine then_normal ?_
 refine rounds_k (fun K43 k43=>?_)
 refine wp_seq_k (fun K44 k44=>?_)
 refine sgsD [.det (.int .i64 1),.det (.bool true)] [0,1] [0,1] (fun L d=>D d 0 2++([L0.p 0,L0.p 1,L0.p 2,L1.p 0,.int .i64 1,.int .i64 1]++(D d 8 5++([.bool true]++D d 14 36)))) (fun L=>[(L0.b 0,C6 x),(L0.b 1,C6 y),(L0.b 2,C6 0),(L1.b 0,C5 ⟨(0+(x.c0*y.c0)),((0+(x.c0*y.c1))+(x.c1*y.c0)),(0+(x.c0*y.c2)),0,0⟩)]) hp21 ⟨
  oM,oJ .i64 .i64 1 3,
  trivial⟩ (fun L21 _ w22 hp22=>?_)
 refine cT ?_
 refine skips ?_
 refine k44 _ _ ?_
 refine wp_seq_k (fun K46 k46=>?_)
 refine wp_block_k (fun K47 k47=>?_)
 refine drD [.det (.int .i64 1),.det (.int .i64 1),.det (.int .i64 2),.det (.int .i64 1),.det (.int .i64 1),.det (.int .i64 2),.det (pt (L1.b 0) 24),.det (PV (0+(x.c0*y.c2))),.det (.int .i64 1),.det (pt (L0.b 0) 12),.det (PV x.c1),.det (.int .i64 1),.det (pt (L0.b 1) 12),.det (PV y.c1),.det (PV (x.c1*y.c1)),.det (PV ((0+(x.c0*y.c2))+(x.c1*y.c1))),.det (pt (L1.b 0) 24),.store (.base 3) 24 (PC ((0+(x.c0*y.c2))+(x.c1*y.c1))) (C5 ⟨(0+(x.c0*y.c0)),((0+(x.c0*y.c1))+(x.c1*y.c0)),((0+(x.c0*y.c2))+(x.c1*y.c1)),0,0⟩)] (nn 18) [0,0,3,0,0,24,56,120,0,256,768,0,2048,6144,16128,32760,65535,131071] (fun L d=>D d 0 2++([L0.p 0,L0.p 1,L0.p 2,L1.p 0,.int .i64 1,.int .i64 1]++D d 8 42)) (fun L=>[(L0.b 0,C6 x),(L0.b 1,C6 y),(L0.b 2,C6 0),(L1.b 0,C5 ⟨(0+(x.c0*y.c0)),((0+(x.c0*y.c1))+(x.c1*y.c0)),((0+(x.c0*y.c2))+(x.c1*y.c1)),0,0⟩)]) hp22 ⟨
  oM,oM,oJ .i64 .i64 1 1,oM,oM,oJ .i64 .i64 1 1,oI a5,oL 3 24 rP,oM,oI a6,oL 0 12 rP,oM,oI a6,oL 1 12 rP,oR (ref5Mul2 R x.c1 y.c1),oR (ref5Add2 R (0+(x.c0*y.c2)) (x.c1*y.c1)),
  oI a5,oT rP,
  trivial⟩ (fun L22 _ w23 hp23=>?_)
 refine k47 _ _ _ ?_
 refine block_normal ?_
 refine k46 _ _ ?_
 refine gsD [.det (.int .i64 1),.det (.int .i64 2),.det (.int .i64 2)] [0,1,2] [0,1,3] (fun L d=>D d 0 2++([L0.p 0,L0.p 1,L0.p 2,L1.p 0,.int .i64 1,.int .i64 2]++D d 8 42)) (fun L=>[(L0.b 0,C6 x),(L0.b 1,C6 y),(L0.b 2,C6 0),(L1.b 0,C5 ⟨(0+(x.c0*y.c0)),((0+(x.c0*y.c1))+(x.c1*y.c0)),((0+(x.c0*y.c2))+(x.c1*y.c1)),0,0⟩)]) hp23 ⟨
  oM,oJ .i64 .i64 1 1,oA,
  trivial⟩ (fun L23 _ w24 hp24=>?_)
 refine k43 _ _ _ ?_
 refine then_normal ?_
 refine rounds_k (fun K48 k48=>?_)
 refine wp_seq_k (fun K49 k49=>?_)
 refine sgsD [.det (.int .i64 2),.det (.bool true)] [0,1] [0,1] (fun L d=>D d 0 2++([L0.p 0,L0.p 1,L0.p 2,L1.p 0,.int .i64 1,.int .i64 2]++(D d 8 5++([.bool true]++D d 14 36)))) (fun L=>[(L0.b 0,C6 x),(L0.b 1,C6 y),(L0.b 2,C6 0),(L1.b 0,C5 ⟨(0+(x.c0*y.c0)),((0+(x.c0*y.c1))+(x.c1*y.c0)),((0+(x.c0*y.c2))+(x.c1*y.c1)),0,0⟩)]) hp24 ⟨
  oM,oJ .i64 .i64 2 3,
  trivial⟩ (fun L24 _ w25 hp25=>?_)
 refine cT ?_
 refine skips ?_
 refine k49 _ _ ?_
 refine wp_seq_k (fun K51 k51=>?_)
 refine wp_block_k (fun K52 k52=>?_)
 refine drD [.det (.int .i64 1),.det (.int .i64 2),.det (.int .i64 3),.det (.int .i64 1),.det (.int .i64 2),.det (.int .i64 3),.det (pt (L1.b 0) 36),.det (PV 0),.det (.int .i64 1),.det (pt (L0.b 0) 12),.det (PV x.c1),.det (.int .i64 2),.det (pt (L0.b 1) 24),.det (PV y.c2),.det (PV (x.c1*y.c2)),.det (PV (0+(x.c1*y.c2))),.det (pt (L1.b 0) 36),.store (.base 3) 36 (PC (0+(x.c1*y.c2))) (C5 ⟨(0+(x.c0*y.c0)),((0+(x.c0*y.c1))+(x.c1*y.c0)),((0+(x.c0*y.c2))+(x.c1*y.c1)),(0+(x.c1*y.c2)),0⟩)] (nn 18) [0,0,3,0,0,24,56,120,0,256,768,0,2048,6144,16128,32760,65535,131071] (fun L d=>D d 0 2++([L0.p 0,L0.p 1,L0.p 2,L1.p 0,.int .i64 1,.int .i64 2]++D d 8 42)) (fun L=>[(L0.b 0,C6 x),(L0.b 1,C6 y),(L0.b 2,C6 0),(L1.b 0,C5 ⟨(0+(x.c0*y.c0)),((0+(x.c0*y.c1))+(x.c1*y.c0)),((0+(x.c0*y.c2))+(x.c1*y.c1)),(0+(x.c1*y.c2)),0⟩)]) hp25 ⟨
  oM,oM,oJ .i64 .i64 1 2,oM,oM,oJ .i64 .i64 1 2,oI a5,oL 3 36 rP,oM,oI a6,oL 0 12 rP,oM,oI a6,oL 1 24 rP,oR (ref5Mul2 R x.c1 y.c2),oR (ref5Add2 R 0 (x.c1*y.c2)),
  oI a5,oT rP,
  trivial⟩ (fun L25 _ w26 hp26=>?_)
 refine k52 _ _ _ ?_
 refine block_normal ?_
 refine k51 _ _ ?_
 refine gsD [.det (.int .i64 2),.det (.int .i64 3),.det (.int .i64 3)] [0,1,2] [0,1,3] (fun L d=>D d 0 2++([L0.p 0,L0.p 1,L0.p 2,L1.p 0,.int .i64 1,.int .i64 3]++D d 8 42)) (fun L=>[(L0.b 0,C6 x),(L0.b 1,C6 y),(L0.b 2,C6 0),(L1.b 0,C5 ⟨(0+(x.c0*y.c0)),((0+(x.c0*y.c1))+(x.c1*y.c0)),((0+(x.c0*y.c2))+(x.c1*y.c1)),(0+(x.c1*y.c2)),0⟩)]) hp26 ⟨
  oM,oJ .i64 .i64 2 1,oA,
  trivial⟩ (fun L26 _ w27 hp27=>?_)
 refine k48 _ _ _ ?_
 refine then_normal ?_
 refine rounds_k (fun K53 k53=>?_)
 refine wp_seq_k (fun K54 k54=>?_)
 refine sgsD [.det (.int .i64 3),.det (.bool false)] [0,1] [0,1] (fun L d=>D d 0 2++([L0.p 0,L0.p 1,L0.p 2,L1.p 0,.int .i64 1]++(D d 7 6++([.bool false]++D d 14 36)))) (fun L=>[(L0.b 0,C6 x),(L0.b 1,C6 y),(L0.b 2,C6 0),(L1.b 0,C5 ⟨(0+(x.c0*y.c0)),((0+(x.c0*y.c1))+(x.c1*y.c0)),((0+(x.c0*y.c2))+(x.c1*y.c1)),(0+(x.c1*y.c2)),0⟩)]) hp27 ⟨
  oM,oJ .i64 .i64 3 3,
  trivial⟩ (fun L27 _ w28 hp28=>?_)
 refine cF ?_
 refine wp_exit ?_
 refine then_exit ?_
 refine k53 _ _ _ ?_
 refine then_exit ?_
 refine k37 _ _ _ ?_
 refine exit_in ?_
 refine k35 _ _ _ ?_
 refine block_normal ?_
 refine k34 _ _ ?_
 refine gsD [.det (.int .i64 1),.det (.int .i64 2),.det (.int .i64 2)] [0,1,2] [0,1,3] (fun L d=>D d 0 2++([L0.p 0,L0.p 1,L0.p 2,L1.p 0,.int .i64 2]++D d 7 43)) (fun L=>[(L0.b 0,C6 x),(L0.b 1,C6 y),(L0.b 2,C6 0),(L1.b 0,C5 ⟨(0+(x.c0*y.c0)),((0+(x.c0*y.c1))+(x.c1*y.c0)),((0+(x.c0*y.c2))+(x.c1*y.c1)),(0+(x.c1*y.c2)),0⟩)]) hp28 ⟨
  oM,oJ .i64 .i64 1 1,oA,
  trivial⟩ (fun L28 d28 w29 hp29=>?_)
 refine k31 _ _ _ ?_
 refine then_normal ?_
 refine rounds_k (fun K56 k56=>?_)
 refine wp_seq_k (fun K57 k57=>?_)
 refine sgs [.det (.int .i64 2),.det (.bool true)] [0,1] [0,1] (fun L=>D d28 0 2++([L0.p 0,L0.p 1,L0.p 2,L1.p 0,.int .i64 2,d28 7,.int .i64 2,.bool true]++D d28 10 40)) (fun L=>[(L0.b 0,C6 x),(L0.b 1,C6 y),(L0.b 2,C6 0),(L1.b 0,C5 ⟨(0+(x.c0*y.c0)),((0+(x.c0*y.c1))+(x.c1*y.c0)),((0+(x.c0*y.c2))+(x.c1*y.c1)),(0+(x.c1*y.c2)),0⟩)]) hp29 ⟨
  oM,oJ .i64 .i64 2 3,
  trivial⟩ (fun L29 w30 hp30=>?_)
 refine cT ?_
 refine skips ?_
 refine k57 _ _ ?_
 refine wp_seq_k (fun K59 k59=>?_)
 refine wp_block_k (fun K60 k60=>?_)
 refine sgsD [.det (.int .i64 0)] [0] [0] (fun L d=>D d 0 2++([L0.p 0,L0.p 1,L0.p 2,L1.p 0,.int .i64 2,.int .i64 0]++D d 8 42)) (fun L=>[(L0.b 0,C6 x),(L0.b 1,C6 y),(L0.b 2,C6 0),(L1.b 0,C5 ⟨(0+(x.c0*y.c0)),((0+(x.c0*y.c1))+(x.c1*y.c0)),((0+(x.c0*y.c2))+(x.c1*y.c1)),(0+(x.c1*y.c2)),0⟩)]) hp30 ⟨
  oA,
  trivial⟩ (fun L30 _ w31 hp31=>?_)
 refine wp_block_k (fun K62 k62=>?_)
 refine wp_loop_rounds 9 ?_
 refine rounds_k (fun K63 k63=>?_)
 refine wp_seq_k (fun K64 k64=>?_)
 refine sgsD [.det (.int .i64 0),.det (.bool true)] [0,1] [0,1] (fun L d=>D d 0 2++([L0.p 0,L0.p 1,L0.p 2,L1.p 0,.int .i64 2,.int .i64 0]++(D d 8 5++([.bool true]++D d 14 36)))) (fun L=>[(L0.b 0,C6 x),(L0.b 1,C6 y),(L0.b 2,C6 0),(L1.b 0,C5 ⟨(0+(x.c0*y.c0)),((0+(x.c0*y.c1))+(x.c1*y.c0)),((0+(x.c0*y.c2))+(x.c1*y.c1)),(0+(x.c1*y.c2)),0⟩)]) hp31 ⟨
  oM,oJ .i64 .i64 0 3,
  trivial⟩ (fun L31 _ w32 hp32=>?_)
 refine cT ?_
 refine skips ?_
 refine k64 _ _ ?_
 refine wp_seq_k (fun K66 k66=>?_)
 refine wp_block_k (fun K67 k67=>?_)
 refine drD [.det (.int .i64 2),.det (.int .i64 0),.det (.int .i64 2),.det (.int .i64 2),.det (.int .i64 0),.det (.int .i64 2),.det (pt (L1.b 0) 24),.det (PV ((0+(x.c0*y.c2))+(x.c1*y.c1))),.det (.int .i64 2),.det (pt (L0.b 0) 24),.det (PV x.c2),.det (.int .i64 0),.det (L0.p 1),.det (PV y.c0),.det (PV (x.c2*y.c0)),.det (PV (((0+(x.c0*y.c2))+(x.c1*y.c1))+(x.c2*y.c0))),.det (pt (L1.b 0) 24),.store (.base 3) 24 (PC (((0+(x.c0*y.c2))+(x.c1*y.c1))+(x.c2*y.c0))) (C5 ⟨(0+(x.c0*y.c0)),((0+(x.c0*y.c1))+(x.c1*y.c0)),(((0+(x.c0*y.c2))+(x.c1*y.c1))+(x.c2*y.c0)),(0+(x.c1*y.c2)),0⟩)] (nn 18) [0,0,3,0,0,24,56,120,0,256,768,0,2048,6144,16128,32760,65535,131071] (fun L d=>D d 0 2++([L0.p 0,L0.p 1,L0.p 2,L1.p 0,.int .i64 2,.int .i64 0]++D d 8 42)) (fun L=>[(L0.b 0,C6 x),(L0.b 1,C6 y),(L0.b 2,C6 0),(L1.b 0,C5 ⟨(0+(x.c0*y.c0)),((0+(x.c0*y.c1))+(x.c1*y.c0)),(((0+(x.c0*y.c2))+(x.c1*y.c1))+(x.c2*y.c0)),(0+(x.c1*y.c2)),0⟩)]) hp32 ⟨
  oM,oM,oJ .i64 .i64 2 0,oM,oM,oJ .i64 .i64 2 0,oI a5,oL 3 24 rP,oM,oI a6,oL 0 24 rP,oM,oI a6,oL 1 0 rP,oR (ref5Mul2 R x.c2 y.c0),oR (ref5Add2 R ((0+(x.c0*y.c2))+(x.c1*y.c1)) (x.c2*y.c0)),
  oI a5,oT rP,
  trivial⟩ (fun L32 _ w33 hp33=>?_)
 refine k67 _ _ _ ?_
 refine block_normal ?_
 refine k66 _ _ ?_
 refine gsD [.det (.int .i64 0),.det (.int .i64 1),.det (.int .i64 1)] [0,1,2] [0,1,3] (fun L d=>D d 0 2++([L0.p 0,L0.p 1,L0.p 2,L1.p 0,.int .i64 2,.int .i64 1]++D d 8 42)) (fun L=>[(L0.b 0,C6 x),(L0.b 1,C6 y),(L0.b 2,C6 0),(L1.b 0,C5 ⟨(0+(x.c0*y.c0)),((0+(x.c0*y.c1))+(x.c1*y.c0)),(((0+(x.c0*y.c2))+(x.c1*y.c1))+(x.c2*y.c0)),(0+(x.c1*y.c2)),0⟩)]) hp33 ⟨
  oM,oJ .i64 .i64 0 1,oA,
  trivial⟩ (fun L33 _ w34 hp34=>?_)
 refine k63 _ _ _ ?_
 refine then_normal ?_
 refine rounds_k (fun K68 k68=>?_)
 refine wp_seq_k (fun K69 k69=>?_)
 refine sgsD [.det (.int .i64 1),.det (.bool true)] [0,1] [0,1] (fun L d=>D d 0 2++([L0.p 0,L0.p 1,L0.p 2,L1.p 0,.int .i64 2,.int .i64 1]++(D d 8 5++([.bool true]++D d 14 36)))) (fun L=>[(L0.b 0,C6 x),(L0.b 1,C6 y),(L0.b 2,C6 0),(L1.b 0,C5 ⟨(0+(x.c0*y.c0)),((0+(x.c0*y.c1))+(x.c1*y.c0)),(((0+(x.c0*y.c2))+(x.c1*y.c1))+(x.c2*y.c0)),(0+(x.c1*y.c2)),0⟩)]) hp34 ⟨
  oM,oJ .i64 .i64 1 3,
  trivial⟩ (fun L34 _ w35 hp35=>?_)
 refine cT ?_
 refine skips ?_
 refine k69 _ _ ?_
 refine wp_seq_k (fun K71 k71=>?_)
 refine wp_block_k (fun K72 k72=>?_)
 refine drD [.det (.int .i64 2),.det (.int .i64 1),.det (.int .i64 3),.det (.int .i64 2),.det (.int .i64 1),.det (.int .i64 3),.det (pt (L1.b 0) 36),.det (PV (0+(x.c1*y.c2))),.det (.int .i64 2),.det (pt (L0.b 0) 24),.det (PV x.c2),.det (.int .i64 1),.det (pt (L0.b 1) 12),.det (PV y.c1),.det (PV (x.c2*y.c1)),.det (PV ((0+(x.c1*y.c2))+(x.c2*y.c1))),.det (pt (L1.b 0) 36),.store (.base 3) 36 (PC ((0+(x.c1*y.c2))+(x.c2*y.c1))) (C5 ⟨(0+(x.c0*y.c0)),((0+(x.c0*y.c1))+(x.c1*y.c0)),(((0+(x.c0*y.c2))+(x.c1*y.c1))+(x.c2*y.c0)),((0+(x.c1*y.c2))+(x.c2*y.c1)),0⟩)] (nn 18) [0,0,3,0,0,24,56,120,0,256,768,0,2048,6144,16128,32760,65535,131071] (fun L d=>D d 0 2++([L0.p 0,L0.p 1,L0.p 2,L1.p 0,.int .i64 2,.int .i64 1]++D d 8 42)) (fun L=>[(L0.b 0,C6 x),(L0.b 1,C6 y),(L0.b 2,C6 0),(L1.b 0,C5 ⟨(0+(x.c0*y.c0)),((0+(x.c0*y.c1))+(x.c1*y.c0)),(((0+(x.c0*y.c2))+(x.c1*y.c1))+(x.c2*y.c0)),((0+(x.c1*y.c2))+(x.c2*y.c1)),0⟩)]) hp35 ⟨
  oM,oM,oJ .i64 .i64 2 1,oM,oM,oJ .i64 .i64 2 1,oI a5,oL 3 36 rP,oM,oI a6,oL 0 24 rP,oM,oI a6,oL 1 12 rP,oR (ref5Mul2 R x.c2 y.c1),oR (ref5Add2 R (0+(x.c1*y.c2)) (x.c2*y.c1)),
  oI a5,oT rP,
  trivial⟩ (fun L35 _ w36 hp36=>?_)
 refine k72 _ _ _ ?_
 refine block_normal ?_
 refine k71 _ _ ?_
 refine gsD [.det (.int .i64 1),.det (.int .i64 2),.det (.int .i64 2)] [0,1,2] [0,1,3] (fun L d=>D d 0 2++([L0.p 0,L0.p 1,L0.p 2,L1.p 0,.int .i64 2,.int .i64 2]++D d 8 42)) (fun L=>[(L0.b 0,C6 x),(L0.b 1,C6 y),(L0.b 2,C6 0),(L1.b 0,C5 ⟨(0+(x.c0*y.c0)),((0+(x.c0*y.c1))+(x.c1*y.c0)),(((0+(x.c0*y.c2))+(x.c1*y.c1))+(x.c2*y.c0)),((0+(x.c1*y.c2))+(x.c2*y.c1)),0⟩)]) hp36 ⟨
  oM,oJ .i64 .i64 1 1,oA,
  trivial⟩ (fun L36 _ w37 hp37=>?_)
 refine k68 _ _ _ ?_
 refine then_normal ?_
 refine rounds_k (fun K73 k73=>?_)
 refine wp_seq_k (fun K74 k74=>?_)
 refine sgsD [.det (.int .i64 2),.det (.bool true)] [0,1] [0,1] (fun L d=>D d 0 2++([L0.p 0,L0.p 1,L0.p 2,L1.p 0,.int .i64 2,.int .i64 2]++(D d 8 5++([.bool true]++D d 14 36)))) (fun L=>[(L0.b 0,C6 x),(L0.b 1,C6 y),(L0.b 2,C6 0),(L1.b 0,C5 ⟨(0+(x.c0*y.c0)),((0+(x.c0*y.c1))+(x.c1*y.c0)),(((0+(x.c0*y.c2))+(x.c1*y.c1))+(x.c2*y.c0)),((0+(x.c1*y.c2))+(x.c2*y.c1)),0⟩)]) hp37 ⟨
  oM,oJ .i64 .i64 2 3,
  trivial⟩ (fun L37 _ w38 hp38=>?_)
 refine cT ?_
 refine skips ?_
 refine k74 _ _ ?_
 refine wp_seq_k (fun K76 k76=>?_)
 refine wp_block_k (fun K77 k77=>?_)
 refine drD [.det (.int .i64 2),.det (.int .i64 2),.det (.int .i64 4),.det (.int .i64 2),.det (.int .i64 2),.det (.int .i64 4),.det (pt (L1.b 0) 48),.det (PV 0),.det (.int .i64 2),.det (pt (L0.b 0) 24),.det (PV x.c2),.det (.int .i64 2),.det (pt (L0.b 1) 24),.det (PV y.c2),.det (PV (x.c2*y.c2)),.det (PV (0+(x.c2*y.c2))),.det (pt (L1.b 0) 48),.store (.base 3) 48 (PC (0+(x.c2*y.c2))) (C5 ⟨(0+(x.c0*y.c0)),((0+(x.c0*y.c1))+(x.c1*y.c0)),(((0+(x.c0*y.c2))+(x.c1*y.c1))+(x.c2*y.c0)),((0+(x.c1*y.c2))+(x.c2*y.c1)),(0+(x.c2*y.c2))⟩)] (nn 18) [0,0,3,0,0,24,56,120,0,256,768,0,2048,6144,16128,32760,65535,131071] (fun L d=>D d 0 4++([L0.p 2,L1.p 0,.int .i64 2,.int .i64 2]++D d 8 42)) (fun L=>[(L0.b 0,C6 x),(L0.b 1,C6 y),(L0.b 2,C6 0),(L1.b 0,C5 ⟨(0+(x.c0*y.c0)),((0+(x.c0*y.c1))+(x.c1*y.c0)),(((0+(x.c0*y.c2))+(x.c1*y.c1))+(x.c2*y.c0)),((0+(x.c1*y.c2))+(x.c2*y.c1)),(0+(x.c2*y.c2))⟩)]) hp38 ⟨
  oM,oM,oJ .i64 .i64 2 2,oM,oM,oJ .i64 .i64 2 2,oI a5,oL 3 48 rP,oM,oI a6,oL 0 24 rP,oM,oI a6,oL 1 24 rP,oR (ref5Mul2 R x.c2 y.c2),oR (ref5Add2 R 0 (x.c2*y.c2)),
  oI a5,oT rP,
  trivial⟩ (fun L38 _ w39 hp39=>?_)
 refine k77 _ _ _ ?_
 refine block_normal ?_
 refine k76 _ _ ?_
 refine gsD [.det (.int .i64 2),.det (.int .i64 3),.det (.int .i64 3)] [0,1,2] [0,1,3] (fun L d=>D d 0 4++([L0.p 2,L1.p 0,.int .i64 2,.int .i64 3]++D d 8 42)) (fun L=>[(L0.b 0,C6 x),(L0.b 1,C6 y),(L0.b 2,C6 0),(L1.b 0,C5 ⟨(0+(x.c0*y.c0)),((0+(x.c0*y.c1))+(x.c1*y.c0)),(((0+(x.c0*y.c2))+(x.c1*y.c1))+(x.c2*y.c0)),((0+(x.c1*y.c2))+(x.c2*y.c1)),(0+(x.c2*y.c2))⟩)]) hp39 ⟨
  oM,oJ .i64 .i64 2 1,oA,
  trivial⟩ (fun L39 _ w40 hp40=>?_)
 refine k73 _ _ _ ?_
 refine then_normal ?_
 refine rounds_k (fun K78 k78=>?_)
 refine wp_seq_k (fun K79 k79=>?_)
 refine sgsD [.det (.int .i64 3),.det (.bool false)] [0,1] [0,1] (fun L d=>D d 0 4++([L0.p 2,L1.p 0,.int .i64 2]++(D d 7 6++([.bool false]++D d 14 36)))) (fun L=>[(L0.b 0,C6 x),(L0.b 1,C6 y),(L0.b 2,C6 0),(L1.b 0,C5 ⟨(0+(x.c0*y.c0)),((0+(x.c0*y.c1))+(x.c1*y.c0)),(((0+(x.c0*y.c2))+(x.c1*y.c1))+(x.c2*y.c0)),((0+(x.c1*y.c2))+(x.c2*y.c1)),(0+(x.c2*y.c2))⟩)]) hp40 ⟨
  oM,oJ .i64 .i64 3 3,
  trivial⟩ (fun L40 _ w41 hp41=>?_)
 refine cF ?_
 refine wp_exit ?_
 refine then_exit ?_
 refine k78 _ _ _ ?_
 refine then_exit ?_
 refine k62 _ _ _ ?_
 refine exit_in ?_
 refine k60 _ _ _ ?_
 refine block_normal ?_
 refine k59 _ _ ?_
 refine gsD [.det (.int .i64 2),.det (.int .i64 3),.det (.int .i64 3)] [0,1,2] [0,1,3] (fun L d=>D d 0 4++([L0.p 2,L1.p 0,.int .i64 3]++D d 7 43)) (fun L=>[(L0.b 0,C6 x),(L0.b 1,C6 y),(L0.b 2,C6 0),(L1.b 0,C5 ⟨(0+(x.c0*y.c0)),((0+(x.c0*y.c1))+(x.c1*y.c0)),(((0+(x.c0*y.c2))+(x.c1*y.c1))+(x.c2*y.c0)),((0+(x.c1*y.c2))+(x.c2*y.c1)),(0+(x.c2*y.c2))⟩)]) hp41 ⟨
  oM,oJ .i64 .i64 2 1,oA,
  trivial⟩ (fun L41 _ w42 hp42=>?_)
 refine k56 _ _ _ ?_
 refine then_normal ?_
 refine rounds_k (fun K81 k81=>?_)
 refine wp_seq_k (fun K82 k82=>?_)
 refine sgsD [.det (.int .i64 3),.det (.bool false)] [0,1] [0,1] (fun L d=>D d 0 4++([L0.p 2,L1.p 0]++(D d 6 3++([.bool false]++D d 10 40)))) (fun L=>[(L0.b 0,C6 x),(L0.b 1,C6 y),(L0.b 2,C6 0),(L1.b 0,C5 ⟨(0+(x.c0*y.c0)),((0+(x.c0*y.c1))+(x.c1*y.c0)),(((0+(x.c0*y.c2))+(x.c1*y.c1))+(x.c2*y.c0)),((0+(x.c1*y.c2))+(x.c2*y.c1)),(0+(x.c2*y.c2))⟩)]) hp42 ⟨
  oM,oJ .i64 .i64 3 3,
  trivial⟩ (fun L42 _ w43 hp43=>?_)
 refine cF ?_
 refine wp_exit ?_
 refine then_exit ?_
 refine k81 _ _ _ ?_
 refine then_exit ?_
 refine k5 _ _ _ ?_
 refine exit_in ?_
 refine k3 _ _ ?_
 refine sdrD [.det (L1.p 0),.det (PV (0+(x.c0*y.c0))),.det (pt (L1.b 0) 36),.det (PV ((0+(x.c1*y.c2))+(x.c2*y.c1))),.det (PV xi),.det (PV (((0+(x.c1*y.c2))+(x.c2*y.c1))*xi)),.det (PV ((0+(x.c0*y.c0))+(((0+(x.c1*y.c2))+(x.c2*y.c1))*xi))),.det (pt (L1.b 0) 12),.det (PV ((0+(x.c0*y.c1))+(x.c1*y.c0))),.det (pt (L1.b 0) 48),.det (PV (0+(x.c2*y.c2))),.det (PV xi),.det (PV ((0+(x.c2*y.c2))*xi)),.det (PV (((0+(x.c0*y.c1))+(x.c1*y.c0))+((0+(x.c2*y.c2))*xi))),.det (pt (L1.b 0) 24),.det (PV (((0+(x.c0*y.c2))+(x.c1*y.c1))+(x.c2*y.c0))),.det (V6 ⟨((0+(x.c0*y.c0))+(((0+(x.c1*y.c2))+(x.c2*y.c1))*xi)),(((0+(x.c0*y.c1))+(x.c1*y.c0))+((0+(x.c2*y.c2))*xi)),(((0+(x.c0*y.c2))+(x.c1*y.c1))+(x.c2*y.c0))⟩),.store (.base 2) 0 (C6 ⟨((0+(x.c0*y.c0))+(((0+(x.c1*y.c2))+(x.c2*y.c1))*xi)),(((0+(x.c0*y.c1))+(x.c1*y.c0))+((0+(x.c2*y.c2))*xi)),(((0+(x.c0*y.c2))+(x.c1*y.c1))+(x.c2*y.c0))⟩) (C6 ⟨((0+(x.c0*y.c0))+(((0+(x.c1*y.c2))+(x.c2*y.c1))*xi)),(((0+(x.c0*y.c1))+(x.c1*y.c0))+((0+(x.c2*y.c2))*xi)),(((0+(x.c0*y.c2))+(x.c1*y.c1))+(x.c2*y.c0))⟩)] (nn 18) [0,1,0,4,0,28,63,0,128,0,512,127,3711,8191,0,16384,65535,131071] (fun L d=>D d 0 4++([L0.p 2]++D d 5 45)) (fun L=>[(L0.b 0,C6 x),(L0.b 1,C6 y),(L0.b 2,C6 ⟨((0+(x.c0*y.c0))+(((0+(x.c1*y.c2))+(x.c2*y.c1))*xi)),(((0+(x.c0*y.c1))+(x.c1*y.c0))+((0+(x.c2*y.c2))*xi)),(((0+(x.c0*y.c2))+(x.c1*y.c1))+(x.c2*y.c0))⟩),(L1.b 0,C5 ⟨(0+(x.c0*y.c0)),((0+(x.c0*y.c1))+(x.c1*y.c0)),(((0+(x.c0*y.c2))+(x.c1*y.c1))+(x.c2*y.c0)),((0+(x.c1*y.c2))+(x.c2*y.c1)),(0+(x.c2*y.c2))⟩)]) hp43 ⟨
  oI a5,oL 3 0 rP,oI a5,oL 3 36 rP,oR (ref5xi R),oR (ref5Mul2 R ((0+(x.c1*y.c2))+(x.c2*y.c1)) xi),oR (ref5Add2 R (0+(x.c0*y.c0)) (((0+(x.c1*y.c2))+(x.c2*y.c1))*xi)),
  oI a5,oL 3 12 rP,oI a5,oL 3 48 rP,oR (ref5xi R),oR (ref5Mul2 R (0+(x.c2*y.c2)) xi),oR (ref5Add2 R ((0+(x.c0*y.c1))+(x.c1*y.c0)) ((0+(x.c2*y.c2))*xi)),
  oI a5,oL 3 24 rP,oD (build6012 ((0+(x.c0*y.c0))+(((0+(x.c1*y.c2))+(x.c2*y.c1))*xi)) (((0+(x.c0*y.c1))+(x.c1*y.c0))+((0+(x.c2*y.c2))*xi)) (((0+(x.c0*y.c2))+(x.c1*y.c1))+(x.c2*y.c0))),
  oT r6,
  trivial⟩ (fun L43 _ w44 hp44=>?_)
 refine wp_ret ?_
 refine bodyPost_ret (v:=V6 ⟨((0+(x.c0*y.c0))+(((0+(x.c1*y.c2))+(x.c2*y.c1))*xi)),(((0+(x.c0*y.c1))+(x.c1*y.c0))+((0+(x.c2*y.c2))*xi)),(((0+(x.c0*y.c2))+(x.c1*y.c1))+(x.c2*y.c0))⟩) ?_ rfl ?_
 ·exact rc r6 rfl (by kernel_rfl) (hp44.bound 2 rfl).2
 ·exact ⟨congrArg (fun z=>Ending.returned (V6 z)) (F6.ext' (rt6_1 (x.c0) (x.c1) (x.c2) (y.c0) (y.c1) (y.c2) (xi)) (rt6_2 (x.c0) (x.c1) (x.c2) (y.c0) (y.c1) (y.c2) (xi)) (rt6_3 (x.c0) (x.c1) (x.c2) (y.c0) (y.c1) (y.c2))),hp44.bel⟩
theorem ref5Up6 (R:RefK) (x:F6) (w:World):Calls Tryz.prog 54 #[V6 x] w (Ret (V6 x.up) w):=by
 have hp0:=Heap.start w
 go_enter Tryz.func54,Tryz.ntmps54
 refine sgs [.alloc (C6 x),.alloc (C6 0)] [0,1] [0,0] (fun L=>[V6 x,L.p 0,L.p 1]++U 9) (fun L=>[(L.b 0,C6 x),(L.b 1,C6 0)]) hp0 ⟨
  oB,oZ r6,
  trivial⟩ (fun L0 w1 hp1=>?_)
 refine sdrD [.det (pt (L0.b 0) 24),.det (PV x.c2),.det (PV xi),.det (PV (x.c2*xi)),.det (L0.p 0),.det (PV x.c0),.det (pt (L0.b 0) 12),.det (PV x.c1),.det (V6 ⟨(x.c2*xi),x.c0,x.c1⟩),.store (.base 1) 0 (C6 ⟨(x.c2*xi),x.c0,x.c1⟩) (C6 ⟨(x.c2*xi),x.c0,x.c1⟩)] (nn 10) [0,1,0,7,0,16,0,64,255,511] (fun L d=>D d 0 2++([L0.p 1]++D d 3 9)) (fun L=>[(L0.b 0,C6 x),(L0.b 1,C6 ⟨(x.c2*xi),x.c0,x.c1⟩)]) hp1 ⟨
  oI a6,oL 0 24 rP,oR (ref5xi R),oR (ref5Mul2 R x.c2 xi),oI a6,oL 0 0 rP,oI a6,oL 0 12 rP,oD (build6012 (x.c2*xi) x.c0 x.c1),oT r6,
  trivial⟩ (fun L1 _ w2 hp2=>?_)
 refine wp_ret ?_
 refine bodyPost_ret (v:=V6 ⟨(x.c2*xi),x.c0,x.c1⟩) ?_ rfl ?_
 ·exact rc r6 rfl (by kernel_rfl) (hp2.bound 1 rfl).2
 ·exact ⟨rfl,hp2.bel⟩
theorem ref5May2B (R:RefK) (f g:Nat→Int) (w:World) (rf:Rg f 6) (rg:Rg g 6):Calls Tryz.prog 72 #[QV2 f g] w (Ret (.bool (may2 f g)) w):=by
 unfold may2
 by_cases lf:val f 6<RI
 ·by_cases lg:val g 6<RI
  ·rw [decide_eq_true lf,decide_eq_true lg];exact ref5May2 R f g w rf rg lf lg
  ·rw [decide_eq_true lf,decide_eq_false lg];exact ref5May21 R f g w rf rg lf lg
 ·rw [decide_eq_false lf];exact ref5May20 R f g w rf lf
theorem ref5May61f (R:RefK) (f g f2 g2 f3 g3:Nat→Int) (w:World) (rf:Rg f 6) (rg:Rg g 6) (rf2:Rg f2 6) (rg2:Rg g2 6) (rf3:Rg f3 6) (rg3:Rg g3 6) (h0:may2 f g=false):Calls Tryz.prog 42 #[QV6 f g f2 g2 f3 g3] w (Ret (.bool false) w):=by
 have hp0:=Heap.start w
 go_enter Tryz.func42,Tryz.ntmps42
 refine sgsD [.alloc (QC6 f g f2 g2 f3 g3),.det (.bool false)] [0,1] [0,0] (fun L d=>[d 0,L.p 0]++D d 2 14) (fun L=>[(L.b 0,QC6 f g f2 g2 f3 g3)]) hp0 ⟨
  oB,oA,
  trivial⟩ (fun L0 _ w1 hp1=>?_)
 refine sgsD [.det (L0.p 0),.det (QV2 f g),.det (.bool false),.det (.bool false),.det undef,.det undef,.det undef,.det (.bool false),.det (.bool false),.det undef,.det undef,.det undef,.det (.bool false),.det (.bool false)] (nn 14) [0,1,3,7,15,31,63,127,255,511,1023,2047,4095,8191] (fun L d=>D d 0 2++([.bool false]++D d 3 13)) (fun L=>[(L0.b 0,QC6 f g f2 g2 f3 g3)]) hp1 ⟨
  oI a6,oL 0 0 rP,oH (v:=.bool false) (vs:=#[QV2 f g]) (fun w _ _=>by have h:=ref5May2B R f g w rf rg;rw [h0] at h;exact h),oM,oS,oS,oS,oP,oM,
  oS,oS,oS,oP,oA,
  trivial⟩ (fun L1 _ w2 hp2=>?_)
 refine wp_ret ?_
 refine bodyPost_ret (v:=.bool false) ?_ rfl ?_
 ·exact res_t rfl (by kernel_rfl) _
 ·exact ⟨rfl,hp2.bel⟩
theorem ref5May62f (R:RefK) (f g f2 g2 f3 g3:Nat→Int) (w:World) (rf:Rg f 6) (rg:Rg g 6) (rf2:Rg f2 6) (rg2:Rg g2 6) (rf3:Rg f3 6) (rg3:Rg g3 6) (h0:may2 f g=true) (h1:may2 f2 g2=false):Calls Tryz.prog 42 #[QV6 f g f2 g2 f3 g3] w (Ret (.bool false) w):=by
 have hp0:=Heap.start w
 go_enter Tryz.func42,Tryz.ntmps42
 refine sgsD [.alloc (QC6 f g f2 g2 f3 g3),.det (.bool false)] [0,1] [0,0] (fun L d=>[d 0,L.p 0]++D d 2 14) (fun L=>[(L.b 0,QC6 f g f2 g2 f3 g3)]) hp0 ⟨
  oB,oA,
  trivial⟩ (fun L0 _ w1 hp1=>?_)
 refine sgsD [.det (L0.p 0),.det (QV2 f g),.det (.bool true),.det (.bool true),.det (pt (L0.b 0) 12),.det (QV2 f2 g2),.det (.bool false),.det (.bool false),.det (.bool false),.det undef,.det undef,.det undef,.det (.bool false),.det (.bool false)] (nn 14) [0,1,3,7,15,31,63,127,255,511,1023,2047,4095,8191] (fun L d=>D d 0 2++([.bool false]++D d 3 13)) (fun L=>[(L0.b 0,QC6 f g f2 g2 f3 g3)]) hp1 ⟨
  oI a6,oL 0 0 rP,oH (v:=.bool true) (vs:=#[QV2 f g]) (fun w _ _=>by have h:=ref5May2B R f g w rf rg;rw [h0] at h;exact h),oM,oI a6,oL 0 12 rP,
  oH (v:=.bool false) (vs:=#[QV2 f2 g2]) (fun w _ _=>by have h:=ref5May2B R f2 g2 w rf2 rg2;rw [h1] at h;exact h),oP,oM,oS,oS,oS,oP,oA,
  trivial⟩ (fun L1 _ w2 hp2=>?_)
 refine wp_ret ?_
 refine bodyPost_ret (v:=.bool false) ?_ rfl ?_
 ·exact res_t rfl (by kernel_rfl) _
 ·exact ⟨rfl,hp2.bel⟩
theorem ref5May63f (R:RefK) (f g f2 g2 f3 g3:Nat→Int) (w:World) (rf:Rg f 6) (rg:Rg g 6) (rf2:Rg f2 6) (rg2:Rg g2 6) (rf3:Rg f3 6) (rg3:Rg g3 6) (h0:may2 f g=true) (h1:may2 f2 g2=true) (h2:may2 f3 g3=false):Calls Tryz.prog 42 #[QV6 f g f2 g2 f3 g3] w (Ret (.bool false) w):=by
 have hp0:=Heap.start w
 go_enter Tryz.func42,Tryz.ntmps42
 refine sgsD [.alloc (QC6 f g f2 g2 f3 g3),.det (.bool false)] [0,1] [0,0] (fun L d=>[d 0,L.p 0]++D d 2 14) (fun L=>[(L.b 0,QC6 f g f2 g2 f3 g3)]) hp0 ⟨
  oB,oA,
  trivial⟩ (fun L0 _ w1 hp1=>?_)
 refine sgsD [.det (L0.p 0),.det (QV2 f g),.det (.bool true),.det (.bool true),.det (pt (L0.b 0) 12),.det (QV2 f2 g2),.det (.bool true),.det (.bool true),.det (.bool true),.det (pt (L0.b 0) 24),.det (QV2 f3 g3),.det (.bool false),.det (.bool false),.det (.bool false)] (nn 14) [0,1,3,7,15,31,63,127,255,511,1023,2047,4095,8191] (fun L d=>D d 0 2++([.bool false]++D d 3 13)) (fun L=>[(L0.b 0,QC6 f g f2 g2 f3 g3)]) hp1 ⟨
  oI a6,oL 0 0 rP,oH (v:=.bool true) (vs:=#[QV2 f g]) (fun w _ _=>by have h:=ref5May2B R f g w rf rg;rw [h0] at h;exact h),oM,oI a6,oL 0 12 rP,
  oH (v:=.bool true) (vs:=#[QV2 f2 g2]) (fun w _ _=>by have h:=ref5May2B R f2 g2 w rf2 rg2;rw [h1] at h;exact h),oP,oM,oI a6,oL 0 24 rP,oH (v:=.bool false) (vs:=#[QV2 f3 g3]) (fun w _ _=>by have h:=ref5May2B R f3 g3 w rf3 rg3;rw [h2] at h;exact h),
  oP,oA,
  trivial⟩ (fun L1 _ w2 hp2=>?_)
 refine wp_ret ?_
 refine bodyPost_ret (v:=.bool false) ?_ rfl ?_
 ·exact res_t rfl (by kernel_rfl) _
 ·exact ⟨rfl,hp2.bel⟩
theorem ref5May63t (R:RefK) (f g f2 g2 f3 g3:Nat→Int) (w:World) (rf:Rg f 6) (rg:Rg g 6) (rf2:Rg f2 6) (rg2:Rg g2 6) (rf3:Rg f3 6) (rg3:Rg g3 6) (h0:may2 f g=true) (h1:may2 f2 g2=true) (h2:may2 f3 g3=true):Calls Tryz.prog 42 #[QV6 f g f2 g2 f3 g3] w (Ret (.bool true) w):=by
 have hp0:=Heap.start w
 go_enter Tryz.func42,Tryz.ntmps42
 refine sgsD [.alloc (QC6 f g f2 g2 f3 g3),.det (.bool false)] [0,1] [0,0] (fun L d=>[d 0,L.p 0]++D d 2 14) (fun L=>[(L.b 0,QC6 f g f2 g2 f3 g3)]) hp0 ⟨
  oB,oA,
  trivial⟩ (fun L0 _ w1 hp1=>?_)
 refine sgsD [.det (L0.p 0),.det (QV2 f g),.det (.bool true),.det (.bool true),.det (pt (L0.b 0) 12),.det (QV2 f2 g2),.det (.bool true),.det (.bool true),.det (.bool true),.det (pt (L0.b 0) 24),.det (QV2 f3 g3),.det (.bool true),.det (.bool true),.det (.bool true)] (nn 14) [0,1,3,7,15,31,63,127,255,511,1023,2047,4095,8191] (fun L d=>D d 0 2++([.bool true]++D d 3 13)) (fun L=>[(L0.b 0,QC6 f g f2 g2 f3 g3)]) hp1 ⟨
  oI a6,oL 0 0 rP,oH (v:=.bool true) (vs:=#[QV2 f g]) (fun w _ _=>by have h:=ref5May2B R f g w rf rg;rw [h0] at h;exact h),oM,oI a6,oL 0 12 rP,
  oH (v:=.bool true) (vs:=#[QV2 f2 g2]) (fun w _ _=>by have h:=ref5May2B R f2 g2 w rf2 rg2;rw [h1] at h;exact h),oP,oM,oI a6,oL 0 24 rP,oH (v:=.bool true) (vs:=#[QV2 f3 g3]) (fun w _ _=>by have h:=ref5May2B R f3 g3 w rf3 rg3;rw [h2] at h;exact h),
  oP,oA,
  trivial⟩ (fun L1 _ w2 hp2=>?_)
 refine wp_ret ?_
 refine bodyPost_ret (v:=.bool true) ?_ rfl ?_
 ·exact res_t rfl (by kernel_rfl) _
 ·exact ⟨rfl,hp2.bel⟩
theorem ref5May6 (R:RefK) (f g f2 g2 f3 g3:Nat→Int) (w:World) (rf:Rg f 6) (rg:Rg g 6) (rf2:Rg f2 6) (rg2:Rg g2 6) (rf3:Rg f3 6) (rg3:Rg g3 6):Calls Tryz.prog 42 #[QV6 f g f2 g2 f3 g3] w (Ret (.bool (may2 f g && (may2 f2 g2 && may2 f3 g3))) w):=by
 cases h0:may2 f g with
 | false=>exact ref5May61f R f g f2 g2 f3 g3 w rf rg rf2 rg2 rf3 rg3 h0
 | true =>
  cases h1:may2 f2 g2 with
  | false=>exact ref5May62f R f g f2 g2 f3 g3 w rf rg rf2 rg2 rf3 rg3 h0 h1
  | true =>
   cases h2:may2 f3 g3 with
   | false=>exact ref5May63f R f g f2 g2 f3 g3 w rf rg rf2 rg2 rf3 rg3 h0 h1 h2
   | true=>exact ref5May63t R f g f2 g2 f3 g3 w rf rg rf2 rg2 rf3 rg3 h0 h1 h2
end Go.Proofs.YthnfgmhehfombaaGreatDoor.fpn
/- The reference's sixes. -/
namespace Go.Proofs.YthnfgmhehfombaaGreatDoor.fpn
open Go.RowKit Pl
theorem ref5One12 (R:RefK)  (w:World):Calls Tryz.prog 18 #[] w (Ret (V12 1) w):=by
 have hp0:=Heap.start w
 go_enter Tryz.func18,Tryz.ntmps18
 refine sgsD [.alloc (C12 0)] [0] [0] (fun L d=>[L.p 0]++D d 1 3) (fun L=>[(L.b 0,C12 0)]) hp0 ⟨
  oZ r12,
  trivial⟩ (fun L0 _ w1 hp1=>?_)
 refine sgsD [.det (PV 1),.det (V6 ⟨1,0,0⟩),.det (V12 ⟨⟨1,0,0⟩,0⟩),.store (.base 0) 0 (C12 ⟨⟨1,0,0⟩,0⟩) (C12 ⟨⟨1,0,0⟩,0⟩)] [0,1,2,3] [0,1,3,7] (fun L d=>[L0.p 0]++D d 1 3) (fun L=>[(L0.b 0,C12 ⟨⟨1,0,0⟩,0⟩)]) hp1 ⟨
  oR (ref5one2 R),oD (build60 1),oD (build120 ⟨1,0,0⟩),oT r12,
  trivial⟩ (fun L1 _ w2 hp2=>?_)
 refine wp_ret ?_
 refine bodyPost_ret (v:=V12 ⟨⟨1,0,0⟩,0⟩) ?_ rfl ?_
 ·exact rc r12 rfl (by kernel_rfl) (hp2.bound 0 rfl).2
 ·exact ⟨rfl,hp2.bel⟩
theorem ref5Mul12 (R:RefK) (x y:F12) (w:World):Calls Tryz.prog 26 #[V12 x,V12 y] w (Ret (V12 (x*y)) w):=by
 have hp0:=Heap.start w
 go_enter Tryz.func26,Tryz.ntmps26
 refine sgs [.alloc (C12 x),.alloc (C12 y),.alloc (C12 0)] [0,1,2] [0,0,0] (fun L=>[V12 x,V12 y,L.p 0,L.p 1,L.p 2]++U 24) (fun L=>[(L.b 0,C12 x),(L.b 1,C12 y),(L.b 2,C12 0)]) hp0 ⟨
  oB,oB,oZ r12,
  trivial⟩ (fun L0 w1 hp1=>?_)
 refine sdrD [.det (L0.p 0),.det (V6 x.c0),.det (L0.p 1),.det (V6 y.c0),.det (V6 (x.c0*y.c0)),.det (pt (L0.b 0) 36),.det (V6 x.c1),.det (pt (L0.b 1) 36),.det (V6 y.c1),.det (V6 (x.c1*y.c1)),.det (V6 ((x.c1*y.c1).up)),.det (V6 ((x.c0*y.c0)+((x.c1*y.c1).up))),.det (L0.p 0),.det (V6 x.c0),.det (pt (L0.b 1) 36),.det (V6 y.c1),.det (V6 (x.c0*y.c1)),.det (pt (L0.b 0) 36),.det (V6 x.c1),.det (L0.p 1),.det (V6 y.c0),.det (V6 (x.c1*y.c0)),.det (V6 ((x.c0*y.c1)+(x.c1*y.c0))),.det (V12 ⟨((x.c0*y.c0)+((x.c1*y.c1).up)),((x.c0*y.c1)+(x.c1*y.c0))⟩),.store (.base 2) 0 (C12 ⟨((x.c0*y.c0)+((x.c1*y.c1).up)),((x.c0*y.c1)+(x.c1*y.c0))⟩) (C12 ⟨((x.c0*y.c0)+((x.c1*y.c1).up)),((x.c0*y.c1)+(x.c1*y.c0))⟩)] (nn 25) [0,1,0,4,15,0,32,0,128,511,1023,2047,0,4096,0,16384,65535,0,131072,0,524288,2097151,4194303,8388607,16777215] (fun L d=>D d 0 4++([L0.p 2]++D d 5 24)) (fun L=>[(L0.b 0,C12 x),(L0.b 1,C12 y),(L0.b 2,C12 ⟨((x.c0*y.c0)+((x.c1*y.c1).up)),((x.c0*y.c1)+(x.c1*y.c0))⟩)]) hp1 ⟨
  oI a12,oL 0 0 r6,oI a12,oL 1 0 r6,oR (ref5Mul6 R x.c0 y.c0),oI a12,oL 0 36 r6,oI a12,oL 1 36 r6,oR (ref5Mul6 R x.c1 y.c1),oR (ref5Up6 R (x.c1*y.c1)),
  oR (ref5Add6 R (x.c0*y.c0) ((x.c1*y.c1).up)),oI a12,oL 0 0 r6,oI a12,oL 1 36 r6,oR (ref5Mul6 R x.c0 y.c1),oI a12,oL 0 36 r6,oI a12,oL 1 0 r6,oR (ref5Mul6 R x.c1 y.c0),
  oR (ref5Add6 R (x.c0*y.c1) (x.c1*y.c0)),oD (build1201 ((x.c0*y.c0)+((x.c1*y.c1).up)) ((x.c0*y.c1)+(x.c1*y.c0))),oT r12,
  trivial⟩ (fun L1 _ w2 hp2=>?_)
 refine wp_ret ?_
 refine bodyPost_ret (v:=V12 ⟨((x.c0*y.c0)+((x.c1*y.c1).up)),((x.c0*y.c1)+(x.c1*y.c0))⟩) ?_ rfl ?_
 ·exact rc r12 rfl (by kernel_rfl) (hp2.bound 2 rfl).2
 ·exact ⟨rfl,hp2.bel⟩
theorem ref5May6B (R:RefK) (f g f2 g2 f3 g3:Nat→Int) (w:World) (rf:Rg f 6) (rg:Rg g 6) (rf2:Rg f2 6) (rg2:Rg g2 6) (rf3:Rg f3 6) (rg3:Rg g3 6):Calls Tryz.prog 42 #[QV6 f g f2 g2 f3 g3] w (Ret (.bool (may6 f g f2 g2 f3 g3)) w):=ref5May6 R f g f2 g2 f3 g3 w rf rg rf2 rg2 rf3 rg3
theorem ref5May121f (R:RefK) (f g f2 g2 f3 g3 f4 g4 f5 g5 f6 g6:Nat→Int) (w:World) (rf:Rg f 6) (rg:Rg g 6) (rf2:Rg f2 6) (rg2:Rg g2 6) (rf3:Rg f3 6) (rg3:Rg g3 6) (rf4:Rg f4 6) (rg4:Rg g4 6) (rf5:Rg f5 6) (rg5:Rg g5 6) (rf6:Rg f6 6) (rg6:Rg g6 6) (h0:may6 f g f2 g2 f3 g3=false):Calls Tryz.prog 21 #[QV12 f g f2 g2 f3 g3 f4 g4 f5 g5 f6 g6] w (Ret (.bool false) w):=by
 have hp0:=Heap.start w
 go_enter Tryz.func21,Tryz.ntmps21
 refine sgsD [.alloc (QC12 f g f2 g2 f3 g3 f4 g4 f5 g5 f6 g6),.det (.bool false)] [0,1] [0,0] (fun L d=>[d 0,L.p 0]++D d 2 9) (fun L=>[(L.b 0,QC12 f g f2 g2 f3 g3 f4 g4 f5 g5 f6 g6)]) hp0 ⟨
  oB,oA,
  trivial⟩ (fun L0 _ w1 hp1=>?_)
 refine sgsD [.det (L0.p 0),.det (QV6 f g f2 g2 f3 g3),.det (.bool false),.det (.bool false),.det undef,.det undef,.det undef,.det (.bool false),.det (.bool false)] (nn 9) [0,1,3,7,15,31,63,127,255] (fun L d=>D d 0 2++([.bool false]++D d 3 8)) (fun L=>[(L0.b 0,QC12 f g f2 g2 f3 g3 f4 g4 f5 g5 f6 g6)]) hp1 ⟨
  oI a12,oL 0 0 r6,oH (v:=.bool false) (vs:=#[QV6 f g f2 g2 f3 g3]) (fun w _ _=>by have h:=ref5May6B R f g f2 g2 f3 g3 w rf rg rf2 rg2 rf3 rg3;rw [h0] at h;exact h),
  oM,oS,oS,oS,oP,oA,
  trivial⟩ (fun L1 _ w2 hp2=>?_)
 refine wp_ret ?_
 refine bodyPost_ret (v:=.bool false) ?_ rfl ?_
 ·exact res_t rfl (by kernel_rfl) _
 ·exact ⟨rfl,hp2.bel⟩
theorem ref5May122f (R:RefK) (f g f2 g2 f3 g3 f4 g4 f5 g5 f6 g6:Nat→Int) (w:World) (rf:Rg f 6) (rg:Rg g 6) (rf2:Rg f2 6) (rg2:Rg g2 6) (rf3:Rg f3 6) (rg3:Rg g3 6) (rf4:Rg f4 6) (rg4:Rg g4 6) (rf5:Rg f5 6) (rg5:Rg g5 6) (rf6:Rg f6 6) (rg6:Rg g6 6) (h0:may6 f g f2 g2 f3 g3=true) (h1:may6 f4 g4 f5 g5 f6 g6=false):Calls Tryz.prog 21 #[QV12 f g f2 g2 f3 g3 f4 g4 f5 g5 f6 g6] w (Ret (.bool false) w):=by
 have hp0:=Heap.start w
 go_enter Tryz.func21,Tryz.ntmps21
 refine sgsD [.alloc (QC12 f g f2 g2 f3 g3 f4 g4 f5 g5 f6 g6),.det (.bool false)] [0,1] [0,0] (fun L d=>[d 0,L.p 0]++D d 2 9) (fun L=>[(L.b 0,QC12 f g f2 g2 f3 g3 f4 g4 f5 g5 f6 g6)]) hp0 ⟨
  oB,oA,
  trivial⟩ (fun L0 _ w1 hp1=>?_)
 refine sgsD [.det (L0.p 0),.det (QV6 f g f2 g2 f3 g3),.det (.bool true),.det (.bool true),.det (pt (L0.b 0) 36),.det (QV6 f4 g4 f5 g5 f6 g6),.det (.bool false),.det (.bool false),.det (.bool false)] (nn 9) [0,1,3,7,15,31,63,127,255] (fun L d=>D d 0 2++([.bool false]++D d 3 8)) (fun L=>[(L0.b 0,QC12 f g f2 g2 f3 g3 f4 g4 f5 g5 f6 g6)]) hp1 ⟨
  oI a12,oL 0 0 r6,oH (v:=.bool true) (vs:=#[QV6 f g f2 g2 f3 g3]) (fun w _ _=>by have h:=ref5May6B R f g f2 g2 f3 g3 w rf rg rf2 rg2 rf3 rg3;rw [h0] at h;exact h),
  oM,oI a12,oL 0 36 r6,oH (v:=.bool false) (vs:=#[QV6 f4 g4 f5 g5 f6 g6]) (fun w _ _=>by have h:=ref5May6B R f4 g4 f5 g5 f6 g6 w rf4 rg4 rf5 rg5 rf6 rg6;rw [h1] at h;exact h),
  oP,oA,
  trivial⟩ (fun L1 _ w2 hp2=>?_)
 refine wp_ret ?_
 refine bodyPost_ret (v:=.bool false) ?_ rfl ?_
 ·exact res_t rfl (by kernel_rfl) _
 ·exact ⟨rfl,hp2.bel⟩
theorem ref5May122t (R:RefK) (f g f2 g2 f3 g3 f4 g4 f5 g5 f6 g6:Nat→Int) (w:World) (rf:Rg f 6) (rg:Rg g 6) (rf2:Rg f2 6) (rg2:Rg g2 6) (rf3:Rg f3 6) (rg3:Rg g3 6) (rf4:Rg f4 6) (rg4:Rg g4 6) (rf5:Rg f5 6) (rg5:Rg g5 6) (rf6:Rg f6 6) (rg6:Rg g6 6) (h0:may6 f g f2 g2 f3 g3=true) (h1:may6 f4 g4 f5 g5 f6 g6=true):Calls Tryz.prog 21 #[QV12 f g f2 g2 f3 g3 f4 g4 f5 g5 f6 g6] w (Ret (.bool true) w):=by
 have hp0:=Heap.start w
 go_enter Tryz.func21,Tryz.ntmps21
 refine sgsD [.alloc (QC12 f g f2 g2 f3 g3 f4 g4 f5 g5 f6 g6),.det (.bool false)] [0,1] [0,0] (fun L d=>[d 0,L.p 0]++D d 2 9) (fun L=>[(L.b 0,QC12 f g f2 g2 f3 g3 f4 g4 f5 g5 f6 g6)]) hp0 ⟨
  oB,oA,
  trivial⟩ (fun L0 _ w1 hp1=>?_)
 refine sgsD [.det (L0.p 0),.det (QV6 f g f2 g2 f3 g3),.det (.bool true),.det (.bool true),.det (pt (L0.b 0) 36),.det (QV6 f4 g4 f5 g5 f6 g6),.det (.bool true),.det (.bool true),.det (.bool true)] (nn 9) [0,1,3,7,15,31,63,127,255] (fun L d=>D d 0 2++([.bool true]++D d 3 8)) (fun L=>[(L0.b 0,QC12 f g f2 g2 f3 g3 f4 g4 f5 g5 f6 g6)]) hp1 ⟨
  oI a12,oL 0 0 r6,oH (v:=.bool true) (vs:=#[QV6 f g f2 g2 f3 g3]) (fun w _ _=>by have h:=ref5May6B R f g f2 g2 f3 g3 w rf rg rf2 rg2 rf3 rg3;rw [h0] at h;exact h),
  oM,oI a12,oL 0 36 r6,oH (v:=.bool true) (vs:=#[QV6 f4 g4 f5 g5 f6 g6]) (fun w _ _=>by have h:=ref5May6B R f4 g4 f5 g5 f6 g6 w rf4 rg4 rf5 rg5 rf6 rg6;rw [h1] at h;exact h),
  oP,oA,
  trivial⟩ (fun L1 _ w2 hp2=>?_)
 refine wp_ret ?_
 refine bodyPost_ret (v:=.bool true) ?_ rfl ?_
 ·exact res_t rfl (by kernel_rfl) _
 ·exact ⟨rfl,hp2.bel⟩
theorem ref5May12 (R:RefK) (f g f2 g2 f3 g3 f4 g4 f5 g5 f6 g6:Nat→Int) (w:World) (rf:Rg f 6) (rg:Rg g 6) (rf2:Rg f2 6) (rg2:Rg g2 6) (rf3:Rg f3 6) (rg3:Rg g3 6) (rf4:Rg f4 6) (rg4:Rg g4 6) (rf5:Rg f5 6) (rg5:Rg g5 6) (rf6:Rg f6 6) (rg6:Rg g6 6):Calls Tryz.prog 21 #[QV12 f g f2 g2 f3 g3 f4 g4 f5 g5 f6 g6] w (Ret (.bool (may6 f g f2 g2 f3 g3 && may6 f4 g4 f5 g5 f6 g6)) w):=by
 cases h0:may6 f g f2 g2 f3 g3 with
 | false=>exact ref5May121f R f g f2 g2 f3 g3 f4 g4 f5 g5 f6 g6 w rf rg rf2 rg2 rf3 rg3 rf4 rg4 rf5 rg5 rf6 rg6 h0
 | true =>
  cases h1:may6 f4 g4 f5 g5 f6 g6 with
  | false=>exact ref5May122f R f g f2 g2 f3 g3 f4 g4 f5 g5 f6 g6 w rf rg rf2 rg2 rf3 rg3 rf4 rg4 rf5 rg5 rf6 rg6 h0 h1
  | true=>exact ref5May122t R f g f2 g2 f3 g3 f4 g4 f5 g5 f6 g6 w rf rg rf2 rg2 rf3 rg3 rf4 rg4 rf5 rg5 rf6 rg6 h0 h1
theorem ref5May12P (R:RefK) (x:F12) (w:World):Calls Tryz.prog 21 #[V12 x] w (Ret (.bool true) w):=by
 have h:=ref5May12 R (lb x.c0.c0.c0.val) (lb x.c0.c0.c1.val) (lb x.c0.c1.c0.val) (lb x.c0.c1.c1.val) (lb x.c0.c2.c0.val) (lb x.c0.c2.c1.val) (lb x.c1.c0.c0.val) (lb x.c1.c0.c1.val) (lb x.c1.c1.c0.val) (lb x.c1.c1.c1.val) (lb x.c1.c2.c0.val) (lb x.c1.c2.c1.val) w (lb_rg _ _) (lb_rg _ _) (lb_rg _ _) (lb_rg _ _) (lb_rg _ _) (lb_rg _ _) (lb_rg _ _) (lb_rg _ _) (lb_rg _ _) (lb_rg _ _) (lb_rg _ _) (lb_rg _ _)
 rw [may6_num,may6_num] at h
 exact h
end Go.Proofs.YthnfgmhehfombaaGreatDoor.fpn
/- Whole numbers in a plan; a slice's length; the bit of an exponent. -/
namespace Go.Proofs.YthnfgmhehfombaaGreatDoor.Pl
open Go Go.RowKit
section
variable {P:Program} {ops:Array Oper} {ks:List Kind} {T:List Nat} {a0:Act} {B:Nat} {w0:World} {H:List (Nat × List Value)} {i:Nat} {o:Oper}
theorem ob_len {x:Operand} {t e:TypeId} {p:Option Addr} {n c:Nat} (hw:∀ L,wantedR ks L o=true) (hk:kd ks i=.det (.int .i64 n)) (ho:o.op=.call { callee:=.builtin .len,args:=#[x],argTypes:=#[t] })
  (hx:∀ L,rd ops ks T a0 L i x=.slice p n c) (hu:P.underlying t=some (.slice e)):Ob P ops ks T a0 B w0 H i o :=
 ob_pure hw hk fun L w=>by
  unfold execOp
  simp [ho,resolve,hx L,invoke,builtin,Builtin.len_,Sem.run_bind,run_underlying hu w,goInt]
theorem sub1 (t:TypeId) (j:Nat) (h:j<1000000) (w:World):(binOp .sub t (.int .i64 ((j+1:Nat):Int)) (.int .i64 1)).run P w=.ok (.int .i64 (j:Int)) w:=by
 have e:IntKind.i64.wrap ((((j+1:Nat):Int))-1)=(j:Int):=by unfold IntKind.wrap;simp [IntKind.bits,IntKind.signed];omega
 simp only [binOp,Op.intArith,e];simp [Sem.run_bind,e]
theorem sub3 (t:TypeId) (j:Nat) (h:j<1000000) (w:World):(binOp .sub t (.int .i64 (j:Int)) (.int .i64 1)).run P w=.ok (.int .i64 ((j:Int)-1)) w:=by
 have e:IntKind.i64.wrap ((j:Int)-1)=(j:Int)-1:=by unfold IntKind.wrap;simp [IntKind.bits,IntKind.signed];omega
 simp only [binOp,Op.intArith,e];simp [Sem.run_bind,e]
theorem mul64 (t:TypeId) (n:Nat) (h:n≤1000) (w:World):(binOp .mul t (.int .i64 64) (.int .i64 (n:Int))).run P w=.ok (.int .i64 ((64*n:Nat):Int)) w:=by
 have e:IntKind.i64.wrap (64*(n:Int))=((64*n:Nat):Int):=by unfold IntKind.wrap;simp [IntKind.bits,IntKind.signed];omega
 simp only [binOp,Op.intArith,e];simp [Sem.run_bind,e]
theorem gtrI (t:TypeId) (a b:Int) (w:World):(binOp .gtr t (.int .i64 a) (.int .i64 b)).run P w=.ok (.bool (decide (a > b))) w:=by
 simp [binOp,Sem.run_bind,Op.intCmp]
theorem geqI (t:TypeId) (a b:Int) (w:World):(binOp .geq t (.int .i64 a) (.int .i64 b)).run P w=.ok (.bool (decide (a ≥ b))) w:=by
 simp [binOp,Sem.run_bind,Op.intCmp]
end
end Go.Proofs.YthnfgmhehfombaaGreatDoor.Pl
namespace Go.Proofs.YthnfgmhehfombaaGreatDoor.fpn
open Go.RowKit
theorem bitR (p:Option Addr) (n c:Nat) (g:Nat→Int) (j:Nat) (w:World) (hj:j<64*n) (hn:n≤1000) (h:At w p n g) (rg:Rg g n) :
  Calls Tryz.prog 41 #[.slice p n c,.int .i64 j] w fun e w'=>e=.returned (.bool (decide (g (j / 64) / 2^(j%64)%2=1)))∧w'=w:=by
 obtain ⟨b,off,rfl,hcell⟩:=h (by omega)
 have hm1:=hcell (j / 64) (by omega)
 have r:=rg (j / 64) (by omega)
 have hbit:bits BinOp.and IntKind.u64 (g (j / 64) / 2^(j%64)) 1=g (j / 64) / 2^(j%64)%2:=and_one _ (Int.ediv_nonneg r.1 (Int.le_of_lt (Int.pow_pos (by decide)))) (by
  have:=Int.ediv_le_self (2^(j%64)) r.1
  rw [B64_eq] at r
  omega)
 have HB:Hid _:=hbit
 have i1:(j:Int) / 64<(n:Int):=by omega
 clear hcell h hbit r rg
 go_enter Tryz.func41,Tryz.ntmps41
 go_wp2
 go_ret
 refine ⟨?_,rfl⟩
 have hh:=HB.out
 rw [hh]
 simp only [Ending.returned.injEq]
 first | rfl | exact Bool.beq_eq_decide_eq _ _
theorem bitRN (p:Option Addr) (n c:Nat) (g:Nat→Int) (E j:Nat) (w:World) (hj:j<64*n) (hn:n≤1000) (h:At w p n g) (rg:Rg g n) (hE:val g n=(E:Int)) {r:Bool} (hr:decide (E / 2^j%2=1)=r) :
  Calls Tryz.prog 41 #[.slice p n c,.int .i64 j] w (Ret (.bool r) w) :=
 Calls.mono (bitR p n c g j w hj hn h rg) fun e w' ⟨h1,h2⟩=>⟨by
  rw [h1,nat_bit rg hE hj,← hr]
  congr 3
  rcases (show E / 2^j%2=0∨E / 2^j%2=1 by omega) with h | h<;>simp [h],by rw [h2];exact Below.refl _ _⟩
end Go.Proofs.YthnfgmhehfombaaGreatDoor.fpn
/- The bit of an exponent, in fp12. -/
namespace Go.Proofs.YthnfgmhehfombaaGreatDoor.fpn
open Go.RowKit
theorem bitAt12 (p:Option Addr) (n c:Nat) (g:Nat→Int) (j:Nat) (w:World) (hj:j<64*n) (hn:n≤1000) (h:At w p n g) (rg:Rg g n) :
  Calls Tryz.prog 150 #[.slice p n c,.int .i64 j] w fun e w'=>e=.returned (.int .u64 (g (j / 64) / 2^(j%64)%2))∧w'=w:=by
 obtain ⟨b,off,rfl,hcell⟩:=h (by omega)
 have hm1:=hcell (j / 64) (by omega)
 have r:=rg (j / 64) (by omega)
 have hbit:bits BinOp.and IntKind.u64 (g (j / 64) / 2^(j%64)) 1=g (j / 64) / 2^(j%64)%2:=and_one _ (Int.ediv_nonneg r.1 (Int.le_of_lt (Int.pow_pos (by decide)))) (by
  have:=Int.ediv_le_self (2^(j%64)) r.1
  rw [B64_eq] at r
  omega)
 have HB:Hid _:=hbit
 have i1:(j:Int) / 64<(n:Int):=by omega
 clear hcell h hbit r rg
 go_enter Tryz.func150,Tryz.ntmps150
 go_wp2
 go_ret
 exact ⟨ret_int HB.out,rfl⟩
theorem bitAtN12 (p:Option Addr) (n c:Nat) (g:Nat→Int) (E j:Nat) (w:World) (hj:j<64*n) (hn:n≤1000) (h:At w p n g) (rg:Rg g n) (hE:val g n=(E:Int)) {r:Nat} (hr:E / 2^j%2=r) :
  Calls Tryz.prog 150 #[.slice p n c,.int .i64 j] w (Ret (.int .u64 r) w) :=
 Calls.mono (bitAt12 p n c g j w hj hn h rg) fun e w' ⟨h1,h2⟩=>⟨by rw [h1,nat_bit rg hE hj,hr],by rw [h2];exact Below.refl _ _⟩
end Go.Proofs.YthnfgmhehfombaaGreatDoor.fpn
/- Powers of sixes of pairs. -/
namespace Go.Proofs.YthnfgmhehfombaaGreatDoor.fpn
open Go.RowKit Pl
theorem nw_even {x y:F12} {E j:Nat} (hy:y=npw x (E / 2^(j+1))) (hb:E / 2^j%2=0):y*y=npw x (E / 2^j):=by
 rw [nat_half E j,hb,Nat.add_zero,npw_two,← hy]
theorem nw_odd {x y:F12} {E j:Nat} (hy:y=npw x (E / 2^(j+1))) (hb:E / 2^j%2=1):y*y*x=npw x (E / 2^j):=by
 rw [nat_half E j,hb]
 show _=npw x (2*(E / 2^(j+1)))*x
 rw [npw_two,← hy]
theorem nw_less {E j:Nat} (hz:E / 2^(j+1)=0) (hb:E / 2^j%2=0):E / 2^j=0:=by
 rw [nat_half E j,hb,hz]
theorem nw_none {x y:F12} {E j:Nat} (hy:y=npw x (E / 2^(j+1))) (hz:E / 2^(j+1)=0) (hb:E / 2^j%2=0):y=npw x (E / 2^j):=by
 rw [hy,hz,nw_less hz hb]
def powJ12 (x:F12) (p:Option Addr) (n c E:Nat) (w:World) (b2 b4:Nat) (T:Nat→Prop):Act→World→Prop:=fun a' w'=>∃ (L b5:Nat) (y:F12) (u3 u7 u8 u9 u10 u11 u12 u13 u14 u15 u16 u17 u18 u19 u20 u21 u22 u23 u24 u25 u26 u27 u28 u29 u30 u31 u32 u33 u34 u35 u36:Value),
 a'={ tmps:=#[V12 x,.slice p n c,.pointer (some ⟨b2,0,none⟩),u3,.pointer (some ⟨b4,0,none⟩),.pointer (some ⟨b5,0,none⟩),.int .i64 L,u7,u8,u9,u10,u11,u12,u13,u14,u15,u16,u17,u18,u19,u20,u21,u22,u23,u24,u25,u26,u27,u28,u29,u30,u31,u32,u33,u34,u35,u36],defers:=[] }∧T L∧L≤64*n∧y=npw x (E / 2^L)∧Heap w.heap.size w w' [(b2,C12 x),(b4,C12 0),(b5,C12 y)]
theorem fp12Pow {G:World→Prop} (K:FpK G) (x:F12) (p:Option Addr) (n c:Nat) (g:Nat→Int) (E:Nat) (w:World) (hg:G w) (hn:n≤24) (he:At w p n g) (rg:Rg g n) (hE:val g n=(E:Int)):Calls Tryz.prog 132 #[V12 x,.slice p n c] w (Ret (V12 (npw x E)) w):=by
 have hp0:=Heap.start w
 go_enter Tryz.func132,Tryz.ntmps132
 refine sgs [.alloc (C12 x),.alloc (C12 0)] [0,1] [0,0] (fun L=>[V12 x,.slice p n c,L.p 0,undef,L.p 1]++U 32) (fun L=>[(L.b 0,C12 x),(L.b 1,C12 0)]) hp0 ⟨
  oB,oZ r12,
  trivial⟩ (fun L0 w1 hp1=>?_)
 refine wp_scope_two (powJ12 x p n c E w (L0.b 0) (L0.b 1) (fun L=>E / 2^L=0)) (powJ12 x p n c E w (L0.b 0) (L0.b 1) (fun _=>True)) (fun a' _=>slot 6 a') (fun a' _=>slot 6 a') rfl rfl ?_ ?_ ?_
 ·skip
  rintro a' W ⟨L,b5,y,u3,u7,u8,u9,u10,u11,u12,u13,u14,u15,u16,u17,u18,u19,u20,u21,u22,u23,u24,u25,u26,u27,u28,u29,u30,u31,u32,u33,u34,u35,u36,rfl,-,hL,hy,hJ⟩
  by_cases hL0:L=0
  ·skip
   subst hL0
   refine wp_seq_k (fun K1 k1=>?_)
   refine sgs [.det (.int .i64 ((0:Nat):Int)),.det (.bool false)] [0,1] [0,1] (fun L=>[V12 x,.slice p n c,L0.p 0,u3,L0.p 1,pt b5 0,.int .i64 ((0:Nat):Int),u7,u8,u9,u10,u11,u12,u13,u14,u15,u16,u17,u18,u19,u20,u21,.int .i64 ((0:Nat):Int),.bool false,u24,u25,u26,u27,u28,u29,u30,u31,u32,u33,u34,u35,u36]) (fun L=>[(L0.b 0,C12 x),(L0.b 1,C12 0),(b5,C12 y)]) hJ ⟨
    oM,oJ .i64 .i64 ((0:Nat):Int) 0 (h:=fun w=>(gtrI _ _ _ w).trans (by rw [decide_eq_false (by omega)])),
    trivial⟩ (fun L1 w2 hp2=>?_)
   refine cfk (k1 _ _ ?_)
   refine sgs [.det (V12 y),.store (.base 1) 0 (C12 y) (C12 y)] [0,1] [0,1] (fun L=>[V12 x,.slice p n c,L0.p 0,u3,L0.p 1,pt b5 0,.int .i64 ((0:Nat):Int),u7,u8,u9,u10,u11,u12,u13,u14,u15,u16,u17,u18,u19,u20,u21,.int .i64 ((0:Nat):Int),.bool false,u24,u25,u26,u27,u28,u29,u30,u31,u32,u33,u34,u35,V12 y]) (fun L=>[(L0.b 0,C12 x),(L0.b 1,C12 y),(b5,C12 y)]) hp2 ⟨
    oL 2 0 r12,oT r12,
    trivial⟩ (fun L2 w3 hp3=>?_)
   refine wp_ret ?_
   refine bodyPost_ret (v:=V12 y) ?_ rfl ?_
   ·exact rc r12 rfl (by kernel_rfl) (hp3.bound 1 rfl).2
   ·exact ⟨congrArg (fun z=>Ending.returned (V12 z)) (by rw [hy];try rw [Nat.pow_zero,Nat.div_one]),hp3.bel⟩
  ·skip
   obtain ⟨j,rfl⟩:∃ j,L=j+1:=⟨L-1,by omega⟩
   rcases (show E / 2^j%2=0∨E / 2^j%2=1 by omega) with hb0 | hb1
   ·skip
    refine wp_seq_k (fun K4 k4=>?_)
    refine sgs [.det (.int .i64 ((j+1:Nat):Int)),.det (.bool true)] [0,1] [0,1] (fun L=>[V12 x,.slice p n c,L0.p 0,u3,L0.p 1,pt b5 0,.int .i64 ((j+1:Nat):Int),u7,u8,u9,u10,u11,u12,u13,u14,u15,u16,u17,u18,u19,u20,u21,.int .i64 ((j+1:Nat):Int),.bool true,u24,u25,u26,u27,u28,u29,u30,u31,u32,u33,u34,u35,u36]) (fun L=>[(L0.b 0,C12 x),(L0.b 1,C12 0),(b5,C12 y)]) hJ ⟨
     oM,oJ .i64 .i64 ((j+1:Nat):Int) 0 (h:=fun w=>(gtrI _ _ _ w).trans (by rw [decide_eq_true (by omega)])),
     trivial⟩ (fun L3 w4 hp4=>?_)
    refine cT ?_
    refine sgs [.det (.int .i64 ((j+1:Nat):Int)),.det (.int .i64 (j:Int)),.det (.int .i64 (j:Int))] [0,1,2] [0,1,3] (fun L=>[V12 x,.slice p n c,L0.p 0,u3,L0.p 1,pt b5 0,.int .i64 (j:Int),u7,u8,u9,u10,u11,u12,u13,u14,u15,u16,u17,u18,u19,u20,u21,.int .i64 ((j+1:Nat):Int),.bool true,.int .i64 ((j+1:Nat):Int),.int .i64 (j:Int),u26,u27,u28,u29,u30,u31,u32,u33,u34,u35,u36]) (fun L=>[(L0.b 0,C12 x),(L0.b 1,C12 0),(b5,C12 y)]) hp4 ⟨
     oM,oJ .i64 .i64 ((j+1:Nat):Int) 1 (h:=fun w=>sub1 _ j (by omega) w),oA,
     trivial⟩ (fun L4 w5 hp5=>?_)
    refine sgs [.det (V12 y),.det (V12 y),.det (V12 (y*y)),.store (.base 2) 0 (C12 (y*y)) (C12 (y*y))] [0,1,2,3] [0,0,3,7] (fun L=>[V12 x,.slice p n c,L0.p 0,u3,L0.p 1,pt b5 0,.int .i64 (j:Int),u7,u8,u9,u10,u11,u12,u13,u14,u15,u16,u17,u18,u19,u20,u21,.int .i64 ((j+1:Nat):Int),.bool true,.int .i64 ((j+1:Nat):Int),.int .i64 (j:Int),V12 y,V12 y,V12 (y*y),u29,u30,u31,u32,u33,u34,u35,u36]) (fun L=>[(L0.b 0,C12 x),(L0.b 1,C12 0),(b5,C12 (y*y))]) hp5 ⟨
     oL 2 0 r12,oL 2 0 r12,oC K.stay hg (fp12Mul K y y),oT r12,
     trivial⟩ (fun L5 w6 hp6=>?_)
    refine wp_seq_k (fun K8 k8=>?_)
    refine sgs [.det (.slice p n c),.det (.int .i64 (j:Int)),.det (.int .u64 0),.det (.bool false)] [0,1,2,3] [0,0,3,7] (fun L=>[V12 x,.slice p n c,L0.p 0,u3,L0.p 1,pt b5 0,.int .i64 (j:Int),u7,u8,u9,u10,u11,u12,u13,u14,u15,u16,u17,u18,u19,u20,u21,.int .i64 ((j+1:Nat):Int),.bool true,.int .i64 ((j+1:Nat):Int),.int .i64 (j:Int),V12 y,V12 y,V12 (y*y),.slice p n c,.int .i64 (j:Int),.int .u64 0,.bool false,u33,u34,u35,u36]) (fun L=>[(L0.b 0,C12 x),(L0.b 1,C12 0),(b5,C12 (y*y))]) hp6 ⟨
     oM,oM,oH (v:=.int .u64 0) (vs:=#[.slice p n c,.int .i64 (j:Int)]) (fun w hb _=>bitAtN12 p n c g E j w (by omega) (by omega) (AtK.below he hb) rg hE hb0),
     oJ .u64 .u64 0 1 (h:=fun w=>(eqlI _ _ _ _ w).trans rfl),
     trivial⟩ (fun L6 w7 hp7=>?_)
    refine cfk (k8 _ _ ?_)
    refine wp_goto ?_
    exact Or.inr ⟨rfl,⟨j,b5,(y*y),u3,u7,u8,u9,u10,u11,u12,u13,u14,u15,u16,u17,u18,u19,u20,u21,.int .i64 ((j+1:Nat):Int),.bool true,.int .i64 ((j+1:Nat):Int),.int .i64 (j:Int),V12 y,V12 y,V12 (y*y),.slice p n c,.int .i64 (j:Int),.int .u64 0,.bool false,u33,u34,u35,u36,rfl,trivial,by omega,nw_even hy hb0,hp7⟩,by simp [slot,intOf]⟩
   ·skip
    refine wp_seq_k (fun K10 k10=>?_)
    refine sgs [.det (.int .i64 ((j+1:Nat):Int)),.det (.bool true)] [0,1] [0,1] (fun L=>[V12 x,.slice p n c,L0.p 0,u3,L0.p 1,pt b5 0,.int .i64 ((j+1:Nat):Int),u7,u8,u9,u10,u11,u12,u13,u14,u15,u16,u17,u18,u19,u20,u21,.int .i64 ((j+1:Nat):Int),.bool true,u24,u25,u26,u27,u28,u29,u30,u31,u32,u33,u34,u35,u36]) (fun L=>[(L0.b 0,C12 x),(L0.b 1,C12 0),(b5,C12 y)]) hJ ⟨
     oM,oJ .i64 .i64 ((j+1:Nat):Int) 0 (h:=fun w=>(gtrI _ _ _ w).trans (by rw [decide_eq_true (by omega)])),
     trivial⟩ (fun L7 w8 hp8=>?_)
    refine cT ?_
    refine sgs [.det (.int .i64 ((j+1:Nat):Int)),.det (.int .i64 (j:Int)),.det (.int .i64 (j:Int))] [0,1,2] [0,1,3] (fun L=>[V12 x,.slice p n c,L0.p 0,u3,L0.p 1,pt b5 0,.int .i64 (j:Int),u7,u8,u9,u10,u11,u12,u13,u14,u15,u16,u17,u18,u19,u20,u21,.int .i64 ((j+1:Nat):Int),.bool true,.int .i64 ((j+1:Nat):Int),.int .i64 (j:Int),u26,u27,u28,u29,u30,u31,u32,u33,u34,u35,u36]) (fun L=>[(L0.b 0,C12 x),(L0.b 1,C12 0),(b5,C12 y)]) hp8 ⟨
     oM,oJ .i64 .i64 ((j+1:Nat):Int) 1 (h:=fun w=>sub1 _ j (by omega) w),oA,
     trivial⟩ (fun L8 w9 hp9=>?_)
    refine sgs [.det (V12 y),.det (V12 y),.det (V12 (y*y)),.store (.base 2) 0 (C12 (y*y)) (C12 (y*y))] [0,1,2,3] [0,0,3,7] (fun L=>[V12 x,.slice p n c,L0.p 0,u3,L0.p 1,pt b5 0,.int .i64 (j:Int),u7,u8,u9,u10,u11,u12,u13,u14,u15,u16,u17,u18,u19,u20,u21,.int .i64 ((j+1:Nat):Int),.bool true,.int .i64 ((j+1:Nat):Int),.int .i64 (j:Int),V12 y,V12 y,V12 (y*y),u29,u30,u31,u32,u33,u34,u35,u36]) (fun L=>[(L0.b 0,C12 x),(L0.b 1,C12 0),(b5,C12 (y*y))]) hp9 ⟨
     oL 2 0 r12,oL 2 0 r12,oC K.stay hg (fp12Mul K y y),oT r12,
     trivial⟩ (fun L9 w10 hp10=>?_)
    refine wp_seq_k (fun K14 k14=>?_)
    refine sgs [.det (.slice p n c),.det (.int .i64 (j:Int)),.det (.int .u64 1),.det (.bool true)] [0,1,2,3] [0,0,3,7] (fun L=>[V12 x,.slice p n c,L0.p 0,u3,L0.p 1,pt b5 0,.int .i64 (j:Int),u7,u8,u9,u10,u11,u12,u13,u14,u15,u16,u17,u18,u19,u20,u21,.int .i64 ((j+1:Nat):Int),.bool true,.int .i64 ((j+1:Nat):Int),.int .i64 (j:Int),V12 y,V12 y,V12 (y*y),.slice p n c,.int .i64 (j:Int),.int .u64 1,.bool true,u33,u34,u35,u36]) (fun L=>[(L0.b 0,C12 x),(L0.b 1,C12 0),(b5,C12 (y*y))]) hp10 ⟨
     oM,oM,oH (v:=.int .u64 1) (vs:=#[.slice p n c,.int .i64 (j:Int)]) (fun w hb _=>bitAtN12 p n c g E j w (by omega) (by omega) (AtK.below he hb) rg hE hb1),
     oJ .u64 .u64 1 1 (h:=fun w=>(eqlI _ _ _ _ w).trans rfl),
     trivial⟩ (fun L10 w11 hp11=>?_)
    refine cT ?_
    refine gs [.det (V12 (y*y)),.det (V12 x),.det (V12 ((y*y)*x)),.store (.base 2) 0 (C12 ((y*y)*x)) (C12 ((y*y)*x))] [0,1,2,3] [0,0,3,7] (fun L=>[V12 x,.slice p n c,L0.p 0,u3,L0.p 1,pt b5 0,.int .i64 (j:Int),u7,u8,u9,u10,u11,u12,u13,u14,u15,u16,u17,u18,u19,u20,u21,.int .i64 ((j+1:Nat):Int),.bool true,.int .i64 ((j+1:Nat):Int),.int .i64 (j:Int),V12 y,V12 y,V12 (y*y),.slice p n c,.int .i64 (j:Int),.int .u64 1,.bool true,V12 (y*y),V12 x,V12 ((y*y)*x),u36]) (fun L=>[(L0.b 0,C12 x),(L0.b 1,C12 0),(b5,C12 ((y*y)*x))]) hp11 ⟨
     oL 2 0 r12,oL 0 0 r12,oC K.stay hg (fp12Mul K (y*y) x),oT r12,
     trivial⟩ (fun L11 w12 hp12=>?_)
    refine k14 _ _ ?_
    refine wp_goto ?_
    exact Or.inr ⟨rfl,⟨j,b5,((y*y)*x),u3,u7,u8,u9,u10,u11,u12,u13,u14,u15,u16,u17,u18,u19,u20,u21,.int .i64 ((j+1:Nat):Int),.bool true,.int .i64 ((j+1:Nat):Int),.int .i64 (j:Int),V12 y,V12 y,V12 (y*y),.slice p n c,.int .i64 (j:Int),.int .u64 1,.bool true,V12 (y*y),V12 x,V12 ((y*y)*x),u36,rfl,trivial,by omega,nw_odd hy hb1,hp12⟩,by simp [slot,intOf]⟩
 ·skip
  rintro hr a' W ⟨L,b5,y,u3,u7,u8,u9,u10,u11,u12,u13,u14,u15,u16,u17,u18,u19,u20,u21,u22,u23,u24,u25,u26,u27,u28,u29,u30,u31,u32,u33,u34,u35,u36,rfl,hz,hL,hy,hJ⟩
  by_cases hL0:L=0
  ·skip
   subst hL0
   refine wp_seq_k (fun K16 k16=>?_)
   refine sgs [.det (.int .i64 ((0:Nat):Int)),.det (.bool false),.det (.bool false),.det undef,.det undef,.det undef,.det undef,.det undef,.det (.bool false)] (nn 9) [0,1,3,7,7,23,63,127,255] (fun L=>[V12 x,.slice p n c,L0.p 0,u3,L0.p 1,pt b5 0,.int .i64 ((0:Nat):Int),u7,u8,u9,u10,.int .i64 ((0:Nat):Int),.bool false,.bool false,undef,undef,undef,undef,undef,.bool false,u20,u21,u22,u23,u24,u25,u26,u27,u28,u29,u30,u31,u32,u33,u34,u35,u36]) (fun L=>[(L0.b 0,C12 x),(L0.b 1,C12 0),(b5,C12 y)]) hJ ⟨
    oM,oJ .i64 .i64 ((0:Nat):Int) 0 (h:=fun w=>(gtrI _ _ _ w).trans (by rw [decide_eq_false (by omega)])),oM,oS,oS,oS,oS,oS,oP,
    trivial⟩ (fun L12 w13 hp13=>?_)
   refine cfk (k16 _ _ ?_)
   refine wp_seq_k (fun K18 k18=>?_)
   refine wp_label ?_
   exact k18 _ _ (hr _ _ _ ⟨0,b5,y,u3,u7,u8,u9,u10,.int .i64 ((0:Nat):Int),.bool false,.bool false,undef,undef,undef,undef,undef,.bool false,u20,u21,u22,u23,u24,u25,u26,u27,u28,u29,u30,u31,u32,u33,u34,u35,u36,rfl,trivial,hL,hy,hp13⟩)
  ·skip
   obtain ⟨j,rfl⟩:∃ j,L=j+1:=⟨L-1,by omega⟩
   rcases (show E / 2^j%2=0∨E / 2^j%2=1 by omega) with hb0 | hb1
   ·skip
    refine wp_seq_k (fun K19 k19=>?_)
    refine sgs [.det (.int .i64 ((j+1:Nat):Int)),.det (.bool true),.det (.bool true),.det (.slice p n c),.det (.int .i64 ((j+1:Nat):Int)),.det (.int .i64 (j:Int)),.det (.int .u64 0),.det (.bool true),.det (.bool true)] (nn 9) [0,1,3,7,7,23,63,127,255] (fun L=>[V12 x,.slice p n c,L0.p 0,u3,L0.p 1,pt b5 0,.int .i64 ((j+1:Nat):Int),u7,u8,u9,u10,.int .i64 ((j+1:Nat):Int),.bool true,.bool true,.slice p n c,.int .i64 ((j+1:Nat):Int),.int .i64 (j:Int),.int .u64 0,.bool true,.bool true,u20,u21,u22,u23,u24,u25,u26,u27,u28,u29,u30,u31,u32,u33,u34,u35,u36]) (fun L=>[(L0.b 0,C12 x),(L0.b 1,C12 0),(b5,C12 y)]) hJ ⟨
     oM,oJ .i64 .i64 ((j+1:Nat):Int) 0 (h:=fun w=>(gtrI _ _ _ w).trans (by rw [decide_eq_true (by omega)])),oM,oM,oM,oJ .i64 .i64 ((j+1:Nat):Int) 1 (h:=fun w=>sub1 _ j (by omega) w),
     oH (v:=.int .u64 0) (vs:=#[.slice p n c,.int .i64 (j:Int)]) (fun w hb _=>bitAtN12 p n c g E j w (by omega) (by omega) (AtK.below he hb) rg hE hb0),
     oJ .u64 .u64 0 0 (h:=fun w=>(eqlI _ _ _ _ w).trans rfl),oP,
     trivial⟩ (fun L13 w14 hp14=>?_)
    refine cT ?_
    refine sgs [.det (.int .i64 ((j+1:Nat):Int)),.det (.int .i64 (j:Int)),.det (.int .i64 (j:Int))] [0,1,2] [0,1,3] (fun L=>[V12 x,.slice p n c,L0.p 0,u3,L0.p 1,pt b5 0,.int .i64 (j:Int),u7,u8,u9,u10,.int .i64 ((j+1:Nat):Int),.bool true,.bool true,.slice p n c,.int .i64 ((j+1:Nat):Int),.int .i64 (j:Int),.int .u64 0,.bool true,.bool true,.int .i64 ((j+1:Nat):Int),.int .i64 (j:Int),u22,u23,u24,u25,u26,u27,u28,u29,u30,u31,u32,u33,u34,u35,u36]) (fun L=>[(L0.b 0,C12 x),(L0.b 1,C12 0),(b5,C12 y)]) hp14 ⟨
     oM,oJ .i64 .i64 ((j+1:Nat):Int) 1 (h:=fun w=>sub1 _ j (by omega) w),oA,
     trivial⟩ (fun L14 w15 hp15=>?_)
    refine wp_goto ?_
    exact Or.inl ⟨rfl,⟨j,b5,y,u3,u7,u8,u9,u10,.int .i64 ((j+1:Nat):Int),.bool true,.bool true,.slice p n c,.int .i64 ((j+1:Nat):Int),.int .i64 (j:Int),.int .u64 0,.bool true,.bool true,.int .i64 ((j+1:Nat):Int),.int .i64 (j:Int),u22,u23,u24,u25,u26,u27,u28,u29,u30,u31,u32,u33,u34,u35,u36,rfl,nw_less hz hb0,by omega,nw_none hy hz hb0,hp15⟩,by simp [slot,intOf]⟩
   ·skip
    refine wp_seq_k (fun K22 k22=>?_)
    refine sgs [.det (.int .i64 ((j+1:Nat):Int)),.det (.bool true),.det (.bool true),.det (.slice p n c),.det (.int .i64 ((j+1:Nat):Int)),.det (.int .i64 (j:Int)),.det (.int .u64 1),.det (.bool false),.det (.bool false)] (nn 9) [0,1,3,7,7,23,63,127,255] (fun L=>[V12 x,.slice p n c,L0.p 0,u3,L0.p 1,pt b5 0,.int .i64 ((j+1:Nat):Int),u7,u8,u9,u10,.int .i64 ((j+1:Nat):Int),.bool true,.bool true,.slice p n c,.int .i64 ((j+1:Nat):Int),.int .i64 (j:Int),.int .u64 1,.bool false,.bool false,u20,u21,u22,u23,u24,u25,u26,u27,u28,u29,u30,u31,u32,u33,u34,u35,u36]) (fun L=>[(L0.b 0,C12 x),(L0.b 1,C12 0),(b5,C12 y)]) hJ ⟨
     oM,oJ .i64 .i64 ((j+1:Nat):Int) 0 (h:=fun w=>(gtrI _ _ _ w).trans (by rw [decide_eq_true (by omega)])),oM,oM,oM,oJ .i64 .i64 ((j+1:Nat):Int) 1 (h:=fun w=>sub1 _ j (by omega) w),
     oH (v:=.int .u64 1) (vs:=#[.slice p n c,.int .i64 (j:Int)]) (fun w hb _=>bitAtN12 p n c g E j w (by omega) (by omega) (AtK.below he hb) rg hE hb1),
     oJ .u64 .u64 1 0 (h:=fun w=>(eqlI _ _ _ _ w).trans rfl),oP,
     trivial⟩ (fun L15 w16 hp16=>?_)
    refine cfk (k22 _ _ ?_)
    refine wp_seq_k (fun K24 k24=>?_)
    refine wp_label ?_
    exact k24 _ _ (hr _ _ _ ⟨(j+1),b5,y,u3,u7,u8,u9,u10,.int .i64 ((j+1:Nat):Int),.bool true,.bool true,.slice p n c,.int .i64 ((j+1:Nat):Int),.int .i64 (j:Int),.int .u64 1,.bool false,.bool false,u20,u21,u22,u23,u24,u25,u26,u27,u28,u29,u30,u31,u32,u33,u34,u35,u36,rfl,trivial,hL,hy,hp16⟩)
 ·skip
  intro hr
  refine sgs [.det (V12 1),.alloc (C12 0),.store (.new 1) 0 (C12 1) (C12 1)] [0,1,2] [0,0,3] (fun L=>[V12 x,.slice p n c,L0.p 0,undef,L0.p 1,L.p 1,undef,V12 1]++U 29) (fun L=>[(L0.b 0,C12 x),(L0.b 1,C12 0),(L.b 1,C12 1)]) hp1 ⟨
   oC K.stay hg (fp12One K),oZ r12,oT r12,
   trivial⟩ (fun L16 w17 hp17=>?_)
  refine sgs [.det (.slice p n c),.det (.int .i64 n),.det (.int .i64 ((64*n:Nat):Int)),.det (.int .i64 ((64*n:Nat):Int))] [0,1,2,3] [0,1,3,7] (fun L=>[V12 x,.slice p n c,L0.p 0,undef,L0.p 1,L16.p 1,.int .i64 ((64*n:Nat):Int),V12 1,.slice p n c,.int .i64 n,.int .i64 ((64*n:Nat):Int)]++U 26) (fun L=>[(L0.b 0,C12 x),(L0.b 1,C12 0),(L16.b 1,C12 1)]) hp17 ⟨
   oM,fun h=>⟨ob_len (p:=p) (n:=n) (c:=c) (fun _=>rfl) h rfl (fun _=>by kernel_rfl) Tryz.underlying54⟩,oJ .i64 .i64 64 n (h:=fun w=>mul64 _ n (by omega) w),
   oA,
   trivial⟩ (fun L17 w18 hp18=>?_)
  refine wp_seq_k (fun K27 k27=>?_)
  refine wp_label ?_
  exact k27 _ _ (hr _ _ ⟨64*n,(L16.b 1),1,undef,V12 1,.slice p n c,.int .i64 n,.int .i64 ((64*n:Nat):Int),undef,undef,undef,undef,undef,undef,undef,undef,undef,undef,undef,undef,undef,undef,undef,undef,undef,undef,undef,undef,undef,undef,undef,undef,undef,undef,rfl,nat_top rg hE,Nat.le_refl _,by rw [nat_top rg hE];rfl,hp18⟩)
def powI12 (x:F12) (p:Option Addr) (n c E:Nat) (w:World) (b2 b4 b5:Nat):Nat→Act→World→Prop:=fun L a' w'=>∃ (y:F12) (u3 u7 u8 u9 u10 u11 u12 u13 u14 u15 u16 u17 u18 u19 u20 u21 u22 u23 u24 u25:Value),
 a'={ tmps:=#[V12 x,.slice p n c,.pointer (some ⟨b2,0,none⟩),u3,.pointer (some ⟨b4,0,none⟩),.pointer (some ⟨b5,0,none⟩),.int .i64 ((L:Int)-1),u7,u8,u9,u10,u11,u12,u13,u14,u15,u16,u17,u18,u19,u20,u21,u22,u23,u24,u25],defers:=[] }∧L≤64*n∧y=npw x (E / 2^L)∧Heap w.heap.size w w' [(b2,C12 x),(b4,C12 0),(b5,C12 y)]
theorem ref5Pow12 (R:RefK) (x:F12) (p:Option Addr) (n c:Nat) (g:Nat→Int) (E:Nat) (w:World) (hn:n≤24) (he:At w p n g) (rg:Rg g n) (hE:val g n=(E:Int)):Calls Tryz.prog 19 #[V12 x,.slice p n c] w (Ret (V12 (npw x E)) w):=by
 have hp0:=Heap.start w
 go_enter Tryz.func19,Tryz.ntmps19
 refine sgs [.alloc (C12 x),.alloc (C12 0)] [0,1] [0,0] (fun L=>[V12 x,.slice p n c,L.p 0,undef,L.p 1]++U 21) (fun L=>[(L.b 0,C12 x),(L.b 1,C12 0)]) hp0 ⟨
  oB,oZ r12,
  trivial⟩ (fun L0 w1 hp1=>?_)
 refine sgs [.det (V12 1),.alloc (C12 0),.store (.new 1) 0 (C12 1) (C12 1)] [0,1,2] [0,0,3] (fun L=>[V12 x,.slice p n c,L0.p 0,undef,L0.p 1,L.p 1,undef,V12 1]++U 18) (fun L=>[(L0.b 0,C12 x),(L0.b 1,C12 0),(L.b 1,C12 1)]) hp1 ⟨
  oR (ref5One12 R),oZ r12,oT r12,
  trivial⟩ (fun L1 w2 hp2=>?_)
 refine wp_seq_k (fun K3 k3=>?_)
 refine sgs [.det (.slice p n c),.det (.int .i64 n),.det (.int .i64 ((64*n:Nat):Int)),.det (.int .i64 (((64*n:Nat):Int)-1)),.det (.int .i64 (((64*n:Nat):Int)-1))] (nn 5) [0,1,3,7,15] (fun L=>[V12 x,.slice p n c,L0.p 0,undef,L0.p 1,L1.p 1,.int .i64 (((64*n:Nat):Int)-1),V12 1,.slice p n c,.int .i64 n,.int .i64 ((64*n:Nat):Int),.int .i64 (((64*n:Nat):Int)-1)]++U 14) (fun L=>[(L0.b 0,C12 x),(L0.b 1,C12 0),(L1.b 1,C12 1)]) hp2 ⟨
  oM,fun h=>⟨ob_len (p:=p) (n:=n) (c:=c) (fun _=>rfl) h rfl (fun _=>by kernel_rfl) Tryz.underlying54⟩,oJ .i64 .i64 64 n (h:=fun w=>mul64 _ n (by omega) w),
  oJ .i64 .i64 ((64*n:Nat):Int) 1 (h:=fun w=>sub3 _ (64*n) (by omega) w),oA,
  trivial⟩ (fun L2 w3 hp3=>?_)
 refine wp_block_k (fun K5 k5=>?_)
 refine wp_loop_ghost (powI12 x p n c E w (L0.b 0) (L0.b 1) (L1.b 1)) (64*n) ⟨1,undef,V12 1,.slice p n c,.int .i64 n,.int .i64 ((64*n:Nat):Int),.int .i64 (((64*n:Nat):Int)-1),undef,undef,undef,undef,undef,undef,undef,undef,undef,undef,undef,undef,undef,undef,rfl,Nat.le_refl _,by rw [nat_top rg hE];rfl,hp3⟩ ?_
 rintro L a' W ⟨y,u3,u7,u8,u9,u10,u11,u12,u13,u14,u15,u16,u17,u18,u19,u20,u21,u22,u23,u24,u25,rfl,hL,hy,hJ⟩
 by_cases hL0:L=0
 rotate_left
 ·skip
  obtain ⟨j,rfl⟩:∃ j,L=j+1:=⟨L-1,by omega⟩
  rw [show (((j+1:Nat):Int)-1)=(j:Int) by omega]
  rcases (show E / 2^j%2=0∨E / 2^j%2=1 by omega) with hb0 | hb1
  ·skip
   refine wp_seq_k (fun K6 k6=>?_)
   refine sgs [.det (.int .i64 (j:Int)),.det (.bool true)] [0,1] [0,1] (fun L=>[V12 x,.slice p n c,L0.p 0,u3,L0.p 1,L1.p 1,.int .i64 (j:Int),u7,u8,u9,u10,u11,.int .i64 (j:Int),.bool true,u14,u15,u16,u17,u18,u19,u20,u21,u22,u23,u24,u25]) (fun L=>[(L0.b 0,C12 x),(L0.b 1,C12 0),(L1.b 1,C12 y)]) hJ ⟨
    oM,oJ .i64 .i64 (j:Int) 0 (h:=fun w=>(geqI _ _ _ w).trans (by rw [decide_eq_true (by omega)])),
    trivial⟩ (fun L3 w4 hp4=>?_)
   refine cT ?_
   refine skips ?_
   refine k6 _ _ ?_
   refine wp_seq_k (fun K8 k8=>?_)
   refine wp_block_k (fun K9 k9=>?_)
   refine sgs [.det (V12 y),.det (V12 y),.det (V12 (y*y)),.store (.base 2) 0 (C12 (y*y)) (C12 (y*y))] [0,1,2,3] [0,0,3,7] (fun L=>[V12 x,.slice p n c,L0.p 0,u3,L0.p 1,L1.p 1,.int .i64 (j:Int),u7,u8,u9,u10,u11,.int .i64 (j:Int),.bool true,u14,u15,V12 y,V12 y,V12 (y*y),u19,u20,u21,u22,u23,u24,u25]) (fun L=>[(L0.b 0,C12 x),(L0.b 1,C12 0),(L1.b 1,C12 (y*y))]) hp4 ⟨
    oL 2 0 r12,oL 2 0 r12,oR (ref5Mul12 R y y),oT r12,
    trivial⟩ (fun L4 w5 hp5=>?_)
   refine sgs [.det (.slice p n c),.det (.int .i64 (j:Int)),.det (.bool false)] [0,1,2] [0,0,3] (fun L=>[V12 x,.slice p n c,L0.p 0,u3,L0.p 1,L1.p 1,.int .i64 (j:Int),u7,u8,u9,u10,u11,.int .i64 (j:Int),.bool true,u14,u15,V12 y,V12 y,V12 (y*y),.slice p n c,.int .i64 (j:Int),.bool false,u22,u23,u24,u25]) (fun L=>[(L0.b 0,C12 x),(L0.b 1,C12 0),(L1.b 1,C12 (y*y))]) hp5 ⟨
    oM,oM,oH (v:=.bool false) (vs:=#[.slice p n c,.int .i64 (j:Int)]) (fun w hb _=>bitRN p n c g E j w (by omega) (by omega) (AtK.below he hb) rg hE (by rw [hb0];rfl)),
    trivial⟩ (fun L5 w6 hp6=>?_)
   refine cF ?_
   refine skips ?_
   refine k9 _ _ _ ?_
   refine block_normal ?_
   refine k8 _ _ ?_
   refine gs [.det (.int .i64 (j:Int)),.det (.int .i64 ((j:Int)-1)),.det (.int .i64 ((j:Int)-1))] [0,1,2] [0,1,3] (fun L=>[V12 x,.slice p n c,L0.p 0,u3,L0.p 1,L1.p 1,.int .i64 ((j:Int)-1),u7,u8,u9,u10,u11,.int .i64 (j:Int),.bool true,.int .i64 (j:Int),.int .i64 ((j:Int)-1),V12 y,V12 y,V12 (y*y),.slice p n c,.int .i64 (j:Int),.bool false,u22,u23,u24,u25]) (fun L=>[(L0.b 0,C12 x),(L0.b 1,C12 0),(L1.b 1,C12 (y*y))]) hp6 ⟨
    oM,oJ .i64 .i64 (j:Int) 1 (h:=fun w=>sub3 _ j (by omega) w),oA,
    trivial⟩ (fun L6 w7 hp7=>?_)
   exact ⟨j,Nat.lt_succ_self _,(y*y),u3,u7,u8,u9,u10,u11,.int .i64 (j:Int),.bool true,.int .i64 (j:Int),.int .i64 ((j:Int)-1),V12 y,V12 y,V12 (y*y),.slice p n c,.int .i64 (j:Int),.bool false,u22,u23,u24,u25,rfl,by omega,nw_even hy hb0,hp7⟩
  ·skip
   refine wp_seq_k (fun K12 k12=>?_)
   refine sgs [.det (.int .i64 (j:Int)),.det (.bool true)] [0,1] [0,1] (fun L=>[V12 x,.slice p n c,L0.p 0,u3,L0.p 1,L1.p 1,.int .i64 (j:Int),u7,u8,u9,u10,u11,.int .i64 (j:Int),.bool true,u14,u15,u16,u17,u18,u19,u20,u21,u22,u23,u24,u25]) (fun L=>[(L0.b 0,C12 x),(L0.b 1,C12 0),(L1.b 1,C12 y)]) hJ ⟨
    oM,oJ .i64 .i64 (j:Int) 0 (h:=fun w=>(geqI _ _ _ w).trans (by rw [decide_eq_true (by omega)])),
    trivial⟩ (fun L7 w8 hp8=>?_)
   refine cT ?_
   refine skips ?_
   refine k12 _ _ ?_
   refine wp_seq_k (fun K14 k14=>?_)
   refine wp_block_k (fun K15 k15=>?_)
   refine sgs [.det (V12 y),.det (V12 y),.det (V12 (y*y)),.store (.base 2) 0 (C12 (y*y)) (C12 (y*y))] [0,1,2,3] [0,0,3,7] (fun L=>[V12 x,.slice p n c,L0.p 0,u3,L0.p 1,L1.p 1,.int .i64 (j:Int),u7,u8,u9,u10,u11,.int .i64 (j:Int),.bool true,u14,u15,V12 y,V12 y,V12 (y*y),u19,u20,u21,u22,u23,u24,u25]) (fun L=>[(L0.b 0,C12 x),(L0.b 1,C12 0),(L1.b 1,C12 (y*y))]) hp8 ⟨
    oL 2 0 r12,oL 2 0 r12,oR (ref5Mul12 R y y),oT r12,
    trivial⟩ (fun L8 w9 hp9=>?_)
   refine sgs [.det (.slice p n c),.det (.int .i64 (j:Int)),.det (.bool true)] [0,1,2] [0,0,3] (fun L=>[V12 x,.slice p n c,L0.p 0,u3,L0.p 1,L1.p 1,.int .i64 (j:Int),u7,u8,u9,u10,u11,.int .i64 (j:Int),.bool true,u14,u15,V12 y,V12 y,V12 (y*y),.slice p n c,.int .i64 (j:Int),.bool true,u22,u23,u24,u25]) (fun L=>[(L0.b 0,C12 x),(L0.b 1,C12 0),(L1.b 1,C12 (y*y))]) hp9 ⟨
    oM,oM,oH (v:=.bool true) (vs:=#[.slice p n c,.int .i64 (j:Int)]) (fun w hb _=>bitRN p n c g E j w (by omega) (by omega) (AtK.below he hb) rg hE (by rw [hb1];rfl)),
    trivial⟩ (fun L9 w10 hp10=>?_)
   refine cT ?_
   refine gs [.det (V12 (y*y)),.det (V12 x),.det (V12 ((y*y)*x)),.store (.base 2) 0 (C12 ((y*y)*x)) (C12 ((y*y)*x))] [0,1,2,3] [0,0,3,7] (fun L=>[V12 x,.slice p n c,L0.p 0,u3,L0.p 1,L1.p 1,.int .i64 (j:Int),u7,u8,u9,u10,u11,.int .i64 (j:Int),.bool true,u14,u15,V12 y,V12 y,V12 (y*y),.slice p n c,.int .i64 (j:Int),.bool true,V12 (y*y),V12 x,V12 ((y*y)*x),u25]) (fun L=>[(L0.b 0,C12 x),(L0.b 1,C12 0),(L1.b 1,C12 ((y*y)*x))]) hp10 ⟨
    oL 2 0 r12,oL 0 0 r12,oR (ref5Mul12 R (y*y) x),oT r12,
    trivial⟩ (fun L10 w11 hp11=>?_)
   refine k15 _ _ _ ?_
   refine block_normal ?_
   refine k14 _ _ ?_
   refine gs [.det (.int .i64 (j:Int)),.det (.int .i64 ((j:Int)-1)),.det (.int .i64 ((j:Int)-1))] [0,1,2] [0,1,3] (fun L=>[V12 x,.slice p n c,L0.p 0,u3,L0.p 1,L1.p 1,.int .i64 ((j:Int)-1),u7,u8,u9,u10,u11,.int .i64 (j:Int),.bool true,.int .i64 (j:Int),.int .i64 ((j:Int)-1),V12 y,V12 y,V12 (y*y),.slice p n c,.int .i64 (j:Int),.bool true,V12 (y*y),V12 x,V12 ((y*y)*x),u25]) (fun L=>[(L0.b 0,C12 x),(L0.b 1,C12 0),(L1.b 1,C12 ((y*y)*x))]) hp11 ⟨
    oM,oJ .i64 .i64 (j:Int) 1 (h:=fun w=>sub3 _ j (by omega) w),oA,
    trivial⟩ (fun L11 w12 hp12=>?_)
   exact ⟨j,Nat.lt_succ_self _,((y*y)*x),u3,u7,u8,u9,u10,u11,.int .i64 (j:Int),.bool true,.int .i64 (j:Int),.int .i64 ((j:Int)-1),V12 y,V12 y,V12 (y*y),.slice p n c,.int .i64 (j:Int),.bool true,V12 (y*y),V12 x,V12 ((y*y)*x),u25,rfl,by omega,nw_odd hy hb1,hp12⟩
 subst hL0
 refine wp_seq_k (fun K18 k18=>?_)
 refine sgs [.det (.int .i64 (((0:Nat):Int)-1)),.det (.bool false)] [0,1] [0,1] (fun L=>[V12 x,.slice p n c,L0.p 0,u3,L0.p 1,L1.p 1,.int .i64 (((0:Nat):Int)-1),u7,u8,u9,u10,u11,.int .i64 (((0:Nat):Int)-1),.bool false,u14,u15,u16,u17,u18,u19,u20,u21,u22,u23,u24,u25]) (fun L=>[(L0.b 0,C12 x),(L0.b 1,C12 0),(L1.b 1,C12 y)]) hJ ⟨
  oM,oJ .i64 .i64 (((0:Nat):Int)-1) 0 (h:=fun w=>(geqI _ _ _ w).trans (by rw [decide_eq_false (by omega)])),
  trivial⟩ (fun L12 w13 hp13=>?_)
 refine cF ?_
 refine wp_exit ?_
 refine then_exit ?_
 refine then_exit ?_
 refine k5 _ _ _ ?_
 refine exit_in ?_
 refine k3 _ _ ?_
 refine sgs [.det (V12 y),.store (.base 1) 0 (C12 y) (C12 y)] [0,1] [0,1] (fun L=>[V12 x,.slice p n c,L0.p 0,u3,L0.p 1,L1.p 1,.int .i64 (((0:Nat):Int)-1),u7,u8,u9,u10,u11,.int .i64 (((0:Nat):Int)-1),.bool false,u14,u15,u16,u17,u18,u19,u20,u21,u22,u23,u24,V12 y]) (fun L=>[(L0.b 0,C12 x),(L0.b 1,C12 y),(L1.b 1,C12 y)]) hp13 ⟨
  oL 2 0 r12,oT r12,
  trivial⟩ (fun L13 w14 hp14=>?_)
 refine wp_ret ?_
 refine bodyPost_ret (v:=V12 y) ?_ rfl ?_
 ·exact rc r12 rfl (by kernel_rfl) (hp14.bound 1 rfl).2
 ·exact ⟨congrArg (fun z=>Ending.returned (V12 z)) (by rw [hy];try rw [Nat.pow_zero,Nat.div_one]),hp14.bel⟩
theorem word_val (E:Nat):val (fun _=>(E:Int)) 1=(E:Int):=by simp [val,pw]
theorem word_rng {E:Nat} (h:E<2^64):Rg (fun _=>(E:Int)) 1:=fun i _=>by
 show 0≤(E:Int)∧(E:Int)<B64
 rw [B64_eq];omega
theorem powOne {G:World→Prop} (K:FpK G) (x:F12) (E:Nat) (v:Value) (w:World) (hg:G w) (hE:E<2^64) (hv:isOne (E:Int) v w):Calls Tryz.prog 132 #[V12 x,v] w (Ret (V12 (npw x E)) w):=by
 obtain ⟨k,rfl,h⟩:=hv
 exact fp12Pow K x (some ⟨k,0,none⟩) 1 1 _ E w hg (by decide) h (word_rng hE) (word_val E)
end Go.Proofs.YthnfgmhehfombaaGreatDoor.fpn
