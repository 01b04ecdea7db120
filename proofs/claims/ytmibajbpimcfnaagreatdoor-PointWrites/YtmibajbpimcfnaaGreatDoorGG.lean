/- Texts laid together. -/
import Derived.Test.YtmibajbpimcfnaaGreatDoorGE
import Derived.Test.YtmibajbpimcfnaaGreatDoorGC
import Derived.Test.YtmibajbpimcfnaaGreatDoorGD
set_option linter.unusedVariables false
set_option linter.unusedSimpArgs false
set_option maxRecDepth 4000
set_option maxHeartbeats 4000000
/- The reference's pairs. -/
namespace Go.Proofs.YtmibajbpimcfnaaGreatDoor.fpn
open Go.RowKit Pl
theorem ref5Add2 (R:RefK) (x y:F2) (w:World):Calls Tryz.prog 42 #[PV x,PV y] w (Ret (PV (x+y)) w):=by
 obtain ⟨n1,o1⟩:=nm (x.c0+y.c0)
 obtain ⟨n2,o2⟩:=nm (x.c1+y.c1)
 have fin:Ending.returned (PV ⟨n1,n2⟩)=Ending.returned (PV (x+y)):=by subst_vars;exact rfl
 have hp0:=Heap.start w
 go_enter Tryz.func42,Tryz.ntmps42
 refine sgs [.alloc (PC x),.alloc (PC y),.alloc (PC 0)] [0,1,2] [0,0,0] (fun L=>[PV x,PV y,L.p 0,L.p 1,L.p 2]++U 11) (fun L=>[(L.b 0,PC x),(L.b 1,PC y),(L.b 2,PC 0)]) hp0 ⟨
  oB,oB,oZ rP,
  trivial⟩ (fun L0 w1 hp1=>?_)
 refine sdrD [.det (L0.p 0),.det (FV x.c0),.det (L0.p 1),.det (FV y.c0),.det (FV n1),.det (pt (L0.b 0) 6),.det (FV x.c1),.det (pt (L0.b 1) 6),.det (FV y.c1),.det (FV n2),.det (PV ⟨n1,n2⟩),.store (.base 2) 0 (PC ⟨n1,n2⟩) (PC ⟨n1,n2⟩)] (nn 12) [0,1,0,4,15,0,32,0,128,511,1023,2047] (fun L d=>D d 0 4++([L0.p 2]++D d 5 11)) (fun L=>[(L0.b 0,PC x),(L0.b 1,PC y),(L0.b 2,PC ⟨n1,n2⟩)]) hp1 ⟨
  oI aP,oL 0 0 rF,oI aP,oL 1 0 rF,oR (nFR o1 (fun w=>R.add x.c0 y.c0 w trivial)),oI aP,oL 0 6 rF,oI aP,oL 1 6 rF,oR (nFR o2 (fun w=>R.add x.c1 y.c1 w trivial)),
  oD (buildP n1 n2),oT rP,
  trivial⟩ (fun L1 _ w2 hp2=>?_)
 refine wp_ret ?_
 refine bodyPost_ret (v:=PV ⟨n1,n2⟩) ?_ rfl ?_
 ·exact rc rP rfl (by kernel_rfl) (hp2.bound 2 rfl).2
 ·exact ⟨fin,hp2.bel⟩
theorem ref5Sub2 (R:RefK) (x y:F2) (w:World):Calls Tryz.prog 104 #[PV x,PV y] w (Ret (PV (x-y)) w):=by
 obtain ⟨n1,o1⟩:=nm (x.c0-y.c0)
 obtain ⟨n2,o2⟩:=nm (x.c1-y.c1)
 have fin:Ending.returned (PV ⟨n1,n2⟩)=Ending.returned (PV (x-y)):=by subst_vars;exact rfl
 have hp0:=Heap.start w
 go_enter Tryz.func104,Tryz.ntmps104
 refine sgs [.alloc (PC x),.alloc (PC y),.alloc (PC 0)] [0,1,2] [0,0,0] (fun L=>[PV x,PV y,L.p 0,L.p 1,L.p 2]++U 11) (fun L=>[(L.b 0,PC x),(L.b 1,PC y),(L.b 2,PC 0)]) hp0 ⟨
  oB,oB,oZ rP,
  trivial⟩ (fun L0 w1 hp1=>?_)
 refine sdrD [.det (L0.p 0),.det (FV x.c0),.det (L0.p 1),.det (FV y.c0),.det (FV n1),.det (pt (L0.b 0) 6),.det (FV x.c1),.det (pt (L0.b 1) 6),.det (FV y.c1),.det (FV n2),.det (PV ⟨n1,n2⟩),.store (.base 2) 0 (PC ⟨n1,n2⟩) (PC ⟨n1,n2⟩)] (nn 12) [0,1,0,4,15,0,32,0,128,511,1023,2047] (fun L d=>D d 0 4++([L0.p 2]++D d 5 11)) (fun L=>[(L0.b 0,PC x),(L0.b 1,PC y),(L0.b 2,PC ⟨n1,n2⟩)]) hp1 ⟨
  oI aP,oL 0 0 rF,oI aP,oL 1 0 rF,oR (nFR o1 (fun w=>R.sub x.c0 y.c0 w trivial)),oI aP,oL 0 6 rF,oI aP,oL 1 6 rF,oR (nFR o2 (fun w=>R.sub x.c1 y.c1 w trivial)),
  oD (buildP n1 n2),oT rP,
  trivial⟩ (fun L1 _ w2 hp2=>?_)
 refine wp_ret ?_
 refine bodyPost_ret (v:=PV ⟨n1,n2⟩) ?_ rfl ?_
 ·exact rc rP rfl (by kernel_rfl) (hp2.bound 2 rfl).2
 ·exact ⟨fin,hp2.bel⟩
theorem ref5Neg2 (R:RefK) (x:F2) (w:World):Calls Tryz.prog 63 #[PV x] w (Ret (PV (-x)) w):=by
 obtain ⟨n1,o1⟩:=nm (0-x)
 have fin:Ending.returned (PV n1)=Ending.returned (PV (-x)):=by subst_vars;exact congrArg (fun z=>Ending.returned (PV z)) (F2.ext' (by simp;grind) (by simp;grind))
 have hp0:=Heap.start w
 go_enter Tryz.func63,Tryz.ntmps63
 refine sgsD [.alloc (PC x),.alloc (PC 0)] [0,1] [0,0] (fun L d=>[d 0,L.p 0,L.p 1]++D d 3 3) (fun L=>[(L.b 0,PC x),(L.b 1,PC 0)]) hp0 ⟨
  oB,oZ rP,
  trivial⟩ (fun L0 _ w1 hp1=>?_)
 refine sgsD [.det (PV 0),.det (PV x),.det (PV n1),.store (.base 1) 0 (PC n1) (PC n1)] [0,1,2,3] [0,0,3,7] (fun L d=>D d 0 2++([L0.p 1]++D d 3 3)) (fun L=>[(L0.b 0,PC x),(L0.b 1,PC n1)]) hp1 ⟨
  oD buildP0,oL 0 0 rP,oR (nPR o1 (ref5Sub2 R 0 x)),oT rP,
  trivial⟩ (fun L1 _ w2 hp2=>?_)
 refine wp_ret ?_
 refine bodyPost_ret (v:=PV n1) ?_ rfl ?_
 ·exact rc rP rfl (by kernel_rfl) (hp2.bound 1 rfl).2
 ·exact ⟨fin,hp2.bel⟩
theorem ref5Mul2 (R:RefK) (x y:F2) (w:World):Calls Tryz.prog 43 #[PV x,PV y] w (Ret (PV (x*y)) w):=by
 obtain ⟨n1,o1⟩:=nm (x.c0*y.c0)
 obtain ⟨n2,o2⟩:=nm (x.c1*y.c1)
 obtain ⟨n3,o3⟩:=nm (n1-n2)
 obtain ⟨n4,o4⟩:=nm (x.c0*y.c1)
 obtain ⟨n5,o5⟩:=nm (x.c1*y.c0)
 obtain ⟨n6,o6⟩:=nm (n4+n5)
 have fin:Ending.returned (PV ⟨n3,n6⟩)=Ending.returned (PV (x*y)):=by subst_vars;exact rfl
 have hp0:=Heap.start w
 go_enter Tryz.func43,Tryz.ntmps43
 refine sgs [.alloc (PC x),.alloc (PC y),.alloc (PC 0)] [0,1,2] [0,0,0] (fun L=>[PV x,PV y,L.p 0,L.p 1,L.p 2]++U 27) (fun L=>[(L.b 0,PC x),(L.b 1,PC y),(L.b 2,PC 0)]) hp0 ⟨
  oB,oB,oZ rP,
  trivial⟩ (fun L0 w1 hp1=>?_)
 refine sdrD [.det (L0.p 0),.det (FV x.c0),.det (L0.p 1),.det (FV y.c0),.det (FV n1),.det (pt (L0.b 0) 6),.det (FV x.c1),.det (pt (L0.b 1) 6),.det (FV y.c1),.det (FV n2),.det (FV n3),.alloc (FC 0),.store (.new 11) 0 (FC n3) (FC n3)] (nn 13) [0,1,0,4,15,0,32,0,128,511,1023,0,4095] (fun L d=>D d 0 2++([L0.p 0,L0.p 1,L0.p 2,L.p 11]++D d 6 26)) (fun L=>[(L0.b 0,PC x),(L0.b 1,PC y),(L0.b 2,PC 0),(L.b 11,FC n3)]) hp1 ⟨
  oI aP,oL 0 0 rF,oI aP,oL 1 0 rF,oR (nFR o1 (fun w=>R.mul x.c0 y.c0 w trivial)),oI aP,oL 0 6 rF,oI aP,oL 1 6 rF,oR (nFR o2 (fun w=>R.mul x.c1 y.c1 w trivial)),
  oR (nFR o3 (fun w=>R.sub n1 n2 w trivial)),oZ rF,oT rF,
  trivial⟩ (fun L1 _ w2 hp2=>?_)
 refine sdrD [.det (L0.p 0),.det (FV x.c0),.det (pt (L0.b 1) 6),.det (FV y.c1),.det (FV n4),.det (pt (L0.b 0) 6),.det (FV x.c1),.det (L0.p 1),.det (FV y.c0),.det (FV n5),.det (FV n6),.alloc (FC 0),.store (.new 11) 0 (FC n6) (FC n6)] (nn 13) [0,1,0,4,15,0,32,0,128,511,1023,0,4095] (fun L d=>D d 0 4++([L0.p 2,L1.p 11,L.p 11]++D d 7 25)) (fun L=>[(L0.b 0,PC x),(L0.b 1,PC y),(L0.b 2,PC 0),(L1.b 11,FC n3),(L.b 11,FC n6)]) hp2 ⟨
  oI aP,oL 0 0 rF,oI aP,oL 1 6 rF,oR (nFR o4 (fun w=>R.mul x.c0 y.c1 w trivial)),oI aP,oL 0 6 rF,oI aP,oL 1 0 rF,oR (nFR o5 (fun w=>R.mul x.c1 y.c0 w trivial)),
  oR (nFR o6 (fun w=>R.add n4 n5 w trivial)),oZ rF,oT rF,
  trivial⟩ (fun L2 _ w3 hp3=>?_)
 refine sgsD [.det (FV n3),.det (FV n6),.det (PV ⟨n3,n6⟩),.store (.base 2) 0 (PC ⟨n3,n6⟩) (PC ⟨n3,n6⟩)] [0,1,2,3] [0,0,3,7] (fun L d=>D d 0 4++([L0.p 2]++D d 5 27)) (fun L=>[(L0.b 0,PC x),(L0.b 1,PC y),(L0.b 2,PC ⟨n3,n6⟩),(L1.b 11,FC n3),(L2.b 11,FC n6)]) hp3 ⟨
  oL 3 0 rF,oL 4 0 rF,oD (buildP n3 n6),oT rP,
  trivial⟩ (fun L3 _ w4 hp4=>?_)
 refine wp_ret ?_
 refine bodyPost_ret (v:=PV ⟨n3,n6⟩) ?_ rfl ?_
 ·exact rc rP rfl (by kernel_rfl) (hp4.bound 2 rfl).2
 ·exact ⟨fin,hp4.bel⟩
theorem ref5Conj2 (R:RefK) (x:F2) (w:World):Calls Tryz.prog 108 #[PV x] w (Ret (PV x.conj) w):=by
 obtain ⟨n1,o1⟩:=nm (-x.c1)
 have fin:Ending.returned (PV ⟨x.c0,n1⟩)=Ending.returned (PV x.conj):=by subst_vars;exact rfl
 have hp0:=Heap.start w
 go_enter Tryz.func108,Tryz.ntmps108
 refine sgs [.alloc (PC x),.alloc (PC 0)] [0,1] [0,0] (fun L=>[PV x,L.p 0,L.p 1]++U 6) (fun L=>[(L.b 0,PC x),(L.b 1,PC 0)]) hp0 ⟨
  oB,oZ rP,
  trivial⟩ (fun L0 w1 hp1=>?_)
 refine sdrD [.det (L0.p 0),.det (FV x.c0),.det (pt (L0.b 0) 6),.det (FV x.c1),.det (FV n1),.det (PV ⟨x.c0,n1⟩),.store (.base 1) 0 (PC ⟨x.c0,n1⟩) (PC ⟨x.c0,n1⟩)] (nn 7) [0,1,0,4,12,31,63] (fun L d=>D d 0 2++([L0.p 1]++D d 3 6)) (fun L=>[(L0.b 0,PC x),(L0.b 1,PC ⟨x.c0,n1⟩)]) hp1 ⟨
  oI aP,oL 0 0 rF,oI aP,oL 0 6 rF,oR (nFR o1 (fun w=>R.neg x.c1 w trivial)),oD (buildP x.c0 n1),oT rP,
  trivial⟩ (fun L1 _ w2 hp2=>?_)
 refine wp_ret ?_
 refine bodyPost_ret (v:=PV ⟨x.c0,n1⟩) ?_ rfl ?_
 ·exact rc rP rfl (by kernel_rfl) (hp2.bound 1 rfl).2
 ·exact ⟨fin,hp2.bel⟩
theorem ref5one2 (R:RefK)  (w:World):Calls Tryz.prog 69 #[] w (Ret (PV 1) w):=by
 have hp0:=Heap.start w
 go_enter Tryz.func69,Tryz.ntmps69
 refine sgs [.alloc (PC 0)] [0] [0] (fun L=>[L.p 0,undef,undef]) (fun L=>[(L.b 0,PC 0)]) hp0 ⟨
  oZ rP,
  trivial⟩ (fun L0 w1 hp1=>?_)
 refine sgs [.det (FV 1),.det (PV ⟨1,0⟩),.store (.base 0) 0 (PC ⟨1,0⟩) (PC ⟨1,0⟩)] [0,1,2] [0,1,3] (fun L=>[L0.p 0,FV 1,PV ⟨1,0⟩]) (fun L=>[(L0.b 0,PC ⟨1,0⟩)]) hp1 ⟨
  oR R.of1,oD (buildPa 1),oT rP,
  trivial⟩ (fun L1 w2 hp2=>?_)
 refine wp_ret ?_
 refine bodyPost_ret (v:=PV ⟨1,0⟩) ?_ rfl ?_
 ·exact rc rP rfl (by kernel_rfl) (hp2.bound 0 rfl).2
 ·exact ⟨(by rw [one_mk]),hp2.bel⟩
theorem conj_mul (x:F2):x*x.conj=⟨x.norm,0⟩:=F2.ext' (by simp [F2.norm];grind) (by simp;grind)
theorem inv_conj (x:F2):x.conj*⟨finv x.norm,0⟩=x.inv:=F2.ext' (by simp [F2.inv];grind) (by simp [F2.inv];grind)
theorem ref5Inv2 (R:RefK) (x:F2) (w:World) (hn:x.norm≠0):Calls Tryz.prog 70 #[PV x] w (Ret (.tuple #[PV x.inv,.int .i64 0]) w):=by
 obtain ⟨n1,o1⟩:=nm (x.conj*⟨(finv x.norm),0⟩)
 have fin:Ending.returned (.tuple #[PV n1,.int .i64 0])=Ending.returned (.tuple #[PV x.inv,.int .i64 0]):=by subst_vars;exact (by rw [inv_conj])
 have hp0:=Heap.start w
 go_enter Tryz.func70,Tryz.ntmps70
 refine sgsD [.alloc (PC x),.alloc (PC 0),.det (.int .i64 0)] [0,1,2] [0,0,0] (fun L d=>[d 0,L.p 0,L.p 1]++D d 3 23) (fun L=>[(L.b 0,PC x),(L.b 1,PC 0)]) hp0 ⟨
  oB,oZ rP,oA,
  trivial⟩ (fun L0 _ w1 hp1=>?_)
 refine sdrD [.det (PV x),.det (PV x),.det (PV x.conj),.det (PV ⟨x.norm,0⟩),.alloc (PC 0),.store (.new 4) 0 (PC ⟨x.norm,0⟩) (PC ⟨x.norm,0⟩)] (nn 6) [0,0,2,7,0,31] (fun L d=>[d 0,L0.p 0,L0.p 1,d 3,L.p 4]++D d 5 21) (fun L=>[(L0.b 0,PC x),(L0.b 1,PC 0),(L.b 4,PC ⟨x.norm,0⟩)]) hp1 ⟨
  oL 0 0 rP,oL 0 0 rP,oR (ref5Conj2 R x),oH (v:=PV ⟨x.norm,0⟩) (vs:=#[PV x,PV x.conj]) (fun w _ _=>by have h:=ref5Mul2 R x x.conj w;rw [conj_mul] at h;exact h),
  oZ rP,oT rP,
  trivial⟩ (fun L1 _ w2 hp2=>?_)
 refine sgsD [.det (L1.p 4),.det (FV x.norm),.det (.tuple #[FV (finv x.norm),.int .i64 0]),.det (.tuple #[FV (finv x.norm),.int .i64 0]),.det (FV (finv x.norm)),.det (.int .i64 0),.alloc (FC 0),.store (.new 6) 0 (FC (finv x.norm)) (FC (finv x.norm)),.det (.int .i64 0)] (nn 9) [0,1,3,7,15,15,0,95,255] (fun L d=>[d 0,L0.p 0,L0.p 1]++(D d 3 2++([L.p 6,.int .i64 0]++D d 7 19))) (fun L=>[(L0.b 0,PC x),(L0.b 1,PC 0),(L1.b 4,PC ⟨x.norm,0⟩),(L.b 6,FC (finv x.norm))]) hp2 ⟨
  oI aP,oL 2 0 rF,oH (v:=.tuple #[FV (finv x.norm),.int .i64 0]) (vs:=#[FV x.norm]) (fun w _ _=>by have h:=R.inv x.norm w trivial hn;exact h),oM,
  oX,oX,oZ rF,oT rF,oA,
  trivial⟩ (fun L2 _ w3 hp3=>?_)
 refine wp_seq_k (fun K4 k4=>?_)
 refine sgsD [.det (.int .i64 0),.det (.bool false)] [0,1] [0,1] (fun L d=>[d 0,L0.p 0,L0.p 1]++(D d 3 2++([L2.p 6]++(D d 6 12++([.bool false]++D d 19 7))))) (fun L=>[(L0.b 0,PC x),(L0.b 1,PC 0),(L1.b 4,PC ⟨x.norm,0⟩),(L2.b 6,FC (finv x.norm))]) hp3 ⟨
  oM,oJ .i64 .i64 0 0 (h:=fun w=>(neqI _ _ _ _ w).trans rfl),
  trivial⟩ (fun L3 _ w4 hp4=>?_)
 refine cfk (k4 _ _ ?_)
 refine sdrD [.det (PV x),.det (PV x.conj),.det (FV (finv x.norm)),.det (PV ⟨(finv x.norm),0⟩),.det (PV n1),.store (.base 1) 0 (PC n1) (PC n1),.det (.int .i64 0)] (nn 7) [0,1,0,4,15,31,63] (fun L d=>D d 0 2++([L0.p 1,.int .i64 0]++D d 4 22)) (fun L=>[(L0.b 0,PC x),(L0.b 1,PC n1),(L1.b 4,PC ⟨x.norm,0⟩),(L2.b 6,FC (finv x.norm))]) hp4 ⟨
  oL 0 0 rP,oR (ref5Conj2 R x),oL 3 0 rF,oD (buildPa (finv x.norm)),oR (nPR o1 (ref5Mul2 R x.conj ⟨(finv x.norm),0⟩)),oT rP,oA,
  trivial⟩ (fun L4 _ w5 hp5=>?_)
 refine wp_ret ?_
 refine bodyPost_ret (v:=.tuple #[PV n1,.int .i64 0]) ?_ rfl ?_
 ·exact rct rP rfl (by kernel_rfl) (by kernel_rfl) (hp5.bound 1 rfl).2
 ·exact ⟨fin,hp5.bel⟩
theorem ref5Inv20 (R:RefK) (x:F2) (w:World) (hn:x.norm=0):Calls Tryz.prog 70 #[PV x] w (Ret (.tuple #[PV 0,.int .i64 7]) w):=by
 have hp0:=Heap.start w
 go_enter Tryz.func70,Tryz.ntmps70
 refine sgsD [.alloc (PC x),.alloc (PC 0),.det (.int .i64 0)] [0,1,2] [0,0,0] (fun L d=>[d 0,L.p 0,L.p 1]++D d 3 23) (fun L=>[(L.b 0,PC x),(L.b 1,PC 0)]) hp0 ⟨
  oB,oZ rP,oA,
  trivial⟩ (fun L0 _ w1 hp1=>?_)
 refine sdrD [.det (PV x),.det (PV x),.det (PV x.conj),.det (PV ⟨0,0⟩),.alloc (PC 0),.store (.new 4) 0 (PC ⟨0,0⟩) (PC ⟨0,0⟩)] (nn 6) [0,0,2,7,0,31] (fun L d=>D d 0 2++([L0.p 1,d 3,L.p 4]++D d 5 21)) (fun L=>[(L0.b 0,PC x),(L0.b 1,PC 0),(L.b 4,PC ⟨0,0⟩)]) hp1 ⟨
  oL 0 0 rP,oL 0 0 rP,oR (ref5Conj2 R x),oH (v:=PV ⟨0,0⟩) (vs:=#[PV x,PV x.conj]) (fun w _ _=>by have h:=ref5Mul2 R x x.conj w;rw [conj_mul,hn] at h;exact h),
  oZ rP,oT rP,
  trivial⟩ (fun L1 _ w2 hp2=>?_)
 refine sgsD [.det (L1.p 4),.det (FV 0),.det (.tuple #[FV 0,.int .i64 7]),.det (.tuple #[FV 0,.int .i64 7]),.det (FV 0),.det (.int .i64 7),.alloc (FC 0),.store (.new 6) 0 (FC 0) (FC 0),.det (.int .i64 7)] (nn 9) [0,1,3,7,15,15,0,95,255] (fun L d=>D d 0 2++([L0.p 1]++(D d 3 3++([.int .i64 7]++D d 7 19)))) (fun L=>[(L0.b 0,PC x),(L0.b 1,PC 0),(L1.b 4,PC ⟨0,0⟩),(L.b 6,FC 0)]) hp2 ⟨
  oI aP,oL 2 0 rF,oR (fun w=>R.inv0 w trivial),oM,oX,oX,oZ rF,oT rF,oA,
  trivial⟩ (fun L2 _ w3 hp3=>?_)
 refine wp_seq_k (fun K4 k4=>?_)
 refine sgsD [.det (.int .i64 7),.det (.bool true)] [0,1] [0,1] (fun L d=>D d 0 2++([L0.p 1]++(D d 3 3++([.int .i64 7]++(D d 7 11++([.bool true]++D d 19 7)))))) (fun L=>[(L0.b 0,PC x),(L0.b 1,PC 0),(L1.b 4,PC ⟨0,0⟩),(L2.b 6,FC 0)]) hp3 ⟨
  oM,oJ .i64 .i64 7 0 (h:=fun w=>(neqI _ _ _ _ w).trans rfl),
  trivial⟩ (fun L3 _ w4 hp4=>?_)
 refine cT ?_
 refine sgsD [.det (PV 0),.det (.int .i64 7),.store (.base 1) 0 (PC 0) (PC 0),.det (.int .i64 7)] [0,1,2,3] [0,0,1,7] (fun L d=>D d 0 2++([L0.p 1,.int .i64 7]++D d 4 22)) (fun L=>[(L0.b 0,PC x),(L0.b 1,PC 0),(L1.b 4,PC ⟨0,0⟩),(L2.b 6,FC 0)]) hp4 ⟨
  oD buildP0,oM,oT rP,oA,
  trivial⟩ (fun L4 _ w5 hp5=>?_)
 refine wp_ret ?_
 refine bodyPost_ret (v:=.tuple #[PV 0,.int .i64 7]) ?_ rfl ?_
 ·exact rct rP rfl (by kernel_rfl) (by kernel_rfl) (hp5.bound 1 rfl).2
 ·exact ⟨rfl,hp5.bel⟩
theorem ref5Great2a (R:RefK) (x:F2) (w:World) (h1:x.c1=0):Calls Tryz.prog 53 #[PV x] w (Ret (.bool x.great) w):=by
 have hp0:=Heap.start w
 go_enter Tryz.func53,Tryz.ntmps53
 refine sgsD [.alloc (PC x),.det (.bool false)] [0,1] [0,0] (fun L d=>[d 0,L.p 0]++D d 2 11) (fun L=>[(L.b 0,PC x)]) hp0 ⟨
  oB,oA,
  trivial⟩ (fun L0 _ w1 hp1=>?_)
 refine wp_seq_k (fun K2 k2=>?_)
 refine sgsD [.det (pt (L0.b 0) 6),.det (FV x.c1),.det (FV 0),.det (.bool false)] [0,1,2,3] [0,1,0,7] (fun L d=>[d 0,L0.p 0]++(D d 2 4++([.bool false]++D d 7 6))) (fun L=>[(L0.b 0,PC x)]) hp1 ⟨
  oI aP,oL 0 6 rF,oD buildF0,oU (a:=x.c1) (b:=0) qF (nay' h1),
  trivial⟩ (fun L1 _ w2 hp2=>?_)
 refine cfk (k2 _ _ ?_)
 refine sgsD [.det (L0.p 0),.det (FV x.c0),.det (.bool (great x.c0)),.det (.bool (great x.c0))] [0,1,2,3] [0,1,3,7] (fun L d=>D d 0 2++([.bool (great x.c0)]++D d 3 10)) (fun L=>[(L0.b 0,PC x)]) hp2 ⟨
  oI aP,oL 0 0 rF,oR (fun w=>R.great x.c0 w trivial),oA,
  trivial⟩ (fun L2 _ w3 hp3=>?_)
 refine wp_ret ?_
 refine bodyPost_ret (v:=.bool (great x.c0)) ?_ rfl ?_
 ·exact res_t rfl (by kernel_rfl) _
 ·exact ⟨congrArg (fun b=>Ending.returned (.bool b)) (if_pos h1).symm,hp3.bel⟩
theorem ref5Great2b (R:RefK) (x:F2) (w:World) (h1:x.c1≠0):Calls Tryz.prog 53 #[PV x] w (Ret (.bool x.great) w):=by
 have hp0:=Heap.start w
 go_enter Tryz.func53,Tryz.ntmps53
 refine sgsD [.alloc (PC x),.det (.bool false)] [0,1] [0,0] (fun L d=>[d 0,L.p 0]++D d 2 11) (fun L=>[(L.b 0,PC x)]) hp0 ⟨
  oB,oA,
  trivial⟩ (fun L0 _ w1 hp1=>?_)
 refine wp_seq_k (fun K2 k2=>?_)
 refine sgsD [.det (pt (L0.b 0) 6),.det (FV x.c1),.det (FV 0),.det (.bool true)] [0,1,2,3] [0,1,0,7] (fun L d=>[d 0,L0.p 0]++(D d 2 4++([.bool true]++D d 7 6))) (fun L=>[(L0.b 0,PC x)]) hp1 ⟨
  oI aP,oL 0 6 rF,oD buildF0,oU (a:=x.c1) (b:=0) qF (yes' h1),
  trivial⟩ (fun L1 _ w2 hp2=>?_)
 refine cT ?_
 refine sgsD [.det (pt (L0.b 0) 6),.det (FV x.c1),.det (.bool (great x.c1)),.det (.bool (great x.c1))] [0,1,2,3] [0,1,3,7] (fun L d=>D d 0 2++([.bool (great x.c1)]++D d 3 10)) (fun L=>[(L0.b 0,PC x)]) hp2 ⟨
  oI aP,oL 0 6 rF,oR (fun w=>R.great x.c1 w trivial),oA,
  trivial⟩ (fun L2 _ w3 hp3=>?_)
 refine wp_ret ?_
 refine bodyPost_ret (v:=.bool (great x.c1)) ?_ rfl ?_
 ·exact res_t rfl (by kernel_rfl) _
 ·exact ⟨congrArg (fun b=>Ending.returned (.bool b)) (if_neg h1).symm,hp3.bel⟩
theorem ref5Great2 (R:RefK) (x:F2) (w:World):Calls Tryz.prog 53 #[PV x] w (Ret (.bool x.great) w):=by
 by_cases h:x.c1=0
 ·exact ref5Great2a R x w h
 ·exact ref5Great2b R x w h
theorem ref5May2 (R:RefK) (f g:Nat→Int) (w:World) (rf:Rg f 6) (rg:Rg g 6) (lf:val f 6<RI) (lg:val g 6<RI):Calls Tryz.prog 45 #[QV2 f g] w (Ret (.bool true) w):=by
 have hp0:=Heap.start w
 go_enter Tryz.func45,Tryz.ntmps45
 refine sgsD [.alloc (QC2 f g),.det (.bool false)] [0,1] [0,0] (fun L d=>[d 0,L.p 0]++D d 2 9) (fun L=>[(L.b 0,QC2 f g)]) hp0 ⟨
  oB,oA,
  trivial⟩ (fun L0 _ w1 hp1=>?_)
 refine sgsD [.det (L0.p 0),.det (QV f),.det (.bool true),.det (.bool true),.det (pt (L0.b 0) 6),.det (QV g),.det (.bool true),.det (.bool true),.det (.bool true)] (nn 9) [0,1,3,7,15,31,63,127,255] (fun L d=>D d 0 2++([.bool true]++D d 3 8)) (fun L=>[(L0.b 0,QC2 f g)]) hp1 ⟨
  oI aP,oL 0 0 rF,oH (v:=.bool true) (vs:=#[QV f]) (fun w _ _=>by have h:=R.may f w trivial rf;rw [decide_eq_true lf] at h;exact h),oM,oI aP,oL 0 6 rF,
  oH (v:=.bool true) (vs:=#[QV g]) (fun w _ _=>by have h:=R.may g w trivial rg;rw [decide_eq_true lg] at h;exact h),oP,oA,
  trivial⟩ (fun L1 _ w2 hp2=>?_)
 refine wp_ret ?_
 refine bodyPost_ret (v:=.bool true) ?_ rfl ?_
 ·exact res_t rfl (by kernel_rfl) _
 ·exact ⟨rfl,hp2.bel⟩
end Go.Proofs.YtmibajbpimcfnaaGreatDoor.fpn
/- Whole numbers in a plan; a slice's length; the bit of an exponent. -/
namespace Go.Proofs.YtmibajbpimcfnaaGreatDoor.Pl
open Go Go.RowKit
section
variable {P:Program} {ops:Array Oper} {ks:List Kind} {T:List Nat} {a0:Act} {B:Nat} {w0:World} {H:List (Nat × List Value)} {i:Nat} {o:Oper}
theorem ob_len {x:Operand} {t e:TypeId} {p:Option Addr} {n c:Nat} (hw:∀ L,wantedR ks L o=true) (hk:kd ks i=.det (.int .i64 n)) (ho:o.op=.call { callee:=.builtin .len,args:=#[x],argTypes:=#[t] })
  (hx:∀ L,rd ops ks T a0 L i x=.slice p n c) (hu:P.underlying t=some (.slice e)):Ob P ops ks T a0 B w0 H i o :=
 ob_pure hw hk fun L w=>by
  unfold execOp
  simp [ho,resolve,hx L,invoke,builtin,Builtin.len_,Sem.run_bind,run_underlying hu w,goInt]
theorem sub1 (t:TypeId) (j:Nat) (h:j<1000000) (w:World):(binOp .sub t (.int .i64 ((j+1:Nat):Int)) (.int .i64 1)).run P w=.ok (.int .i64 (j:Int)) w:=by
 have e:IntKind.i64.wrap ((((j+1:Nat):Int))-1)=(j:Int):=by unfold IntKind.wrap;simp [IntKind.bits,IntKind.signed];omega
 simp only [binOp,Op.intArith,e];simp [Sem.run_bind,e]
theorem sub3 (t:TypeId) (j:Nat) (h:j<1000000) (w:World):(binOp .sub t (.int .i64 (j:Int)) (.int .i64 1)).run P w=.ok (.int .i64 ((j:Int)-1)) w:=by
 have e:IntKind.i64.wrap ((j:Int)-1)=(j:Int)-1:=by unfold IntKind.wrap;simp [IntKind.bits,IntKind.signed];omega
 simp only [binOp,Op.intArith,e];simp [Sem.run_bind,e]
theorem mul64 (t:TypeId) (n:Nat) (h:n≤1000) (w:World):(binOp .mul t (.int .i64 64) (.int .i64 (n:Int))).run P w=.ok (.int .i64 ((64*n:Nat):Int)) w:=by
 have e:IntKind.i64.wrap (64*(n:Int))=((64*n:Nat):Int):=by unfold IntKind.wrap;simp [IntKind.bits,IntKind.signed];omega
 simp only [binOp,Op.intArith,e];simp [Sem.run_bind,e]
theorem gtrI (t:TypeId) (a b:Int) (w:World):(binOp .gtr t (.int .i64 a) (.int .i64 b)).run P w=.ok (.bool (decide (a > b))) w:=by
 simp [binOp,Sem.run_bind,Op.intCmp]
theorem geqI (t:TypeId) (a b:Int) (w:World):(binOp .geq t (.int .i64 a) (.int .i64 b)).run P w=.ok (.bool (decide (a ≥ b))) w:=by
 simp [binOp,Sem.run_bind,Op.intCmp]
end
end Go.Proofs.YtmibajbpimcfnaaGreatDoor.Pl
namespace Go.Proofs.YtmibajbpimcfnaaGreatDoor.fpn
open Go.RowKit
theorem bitR (p:Option Addr) (n c:Nat) (g:Nat→Int) (j:Nat) (w:World) (hj:j<64*n) (hn:n≤1000) (h:At w p n g) (rg:Rg g n) :
  Calls Tryz.prog 68 #[.slice p n c,.int .i64 j] w fun e w'=>e=.returned (.bool (decide (g (j / 64) / 2^(j%64)%2=1)))∧w'=w:=by
 obtain ⟨b,off,rfl,hcell⟩:=h (by omega)
 have hm1:=hcell (j / 64) (by omega)
 have r:=rg (j / 64) (by omega)
 have hbit:bits BinOp.and IntKind.u64 (g (j / 64) / 2^(j%64)) 1=g (j / 64) / 2^(j%64)%2:=and_one _ (Int.ediv_nonneg r.1 (Int.le_of_lt (Int.pow_pos (by decide)))) (by
  have:=Int.ediv_le_self (2^(j%64)) r.1
  rw [B64_eq] at r
  omega)
 have HB:Hid _:=hbit
 have i1:(j:Int) / 64<(n:Int):=by omega
 clear hcell h hbit r rg
 go_enter Tryz.func68,Tryz.ntmps68
 go_wp2
 go_ret
 refine ⟨?_,rfl⟩
 have hh:=HB.out
 rw [hh]
 simp only [Ending.returned.injEq]
 first | rfl | exact Bool.beq_eq_decide_eq _ _
theorem bitRN (p:Option Addr) (n c:Nat) (g:Nat→Int) (E j:Nat) (w:World) (hj:j<64*n) (hn:n≤1000) (h:At w p n g) (rg:Rg g n) (hE:val g n=(E:Int)) {r:Bool} (hr:decide (E / 2^j%2=1)=r) :
  Calls Tryz.prog 68 #[.slice p n c,.int .i64 j] w (Ret (.bool r) w) :=
 Calls.mono (bitR p n c g j w hj hn h rg) fun e w' ⟨h1,h2⟩=>⟨by
  rw [h1,nat_bit rg hE hj,← hr]
  congr 3
  rcases (show E / 2^j%2=0∨E / 2^j%2=1 by omega) with h | h<;>simp [h],by rw [h2];exact Below.refl _ _⟩
end Go.Proofs.YtmibajbpimcfnaaGreatDoor.fpn
