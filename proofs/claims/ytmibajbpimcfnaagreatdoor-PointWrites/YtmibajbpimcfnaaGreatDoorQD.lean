/- Texts laid together. -/
import Derived.Test.YtmibajbpimcfnaaGreatDoorQC
import Derived.Test.YtmibajbpimcfnaaGreatDoorQB
import Derived.Test.YtmibajbpimcfnaaGreatDoorGID
import Derived.Test.YtmibajbpimcfnaaGreatDoorGM
import Derived.Test.YtmibajbpimcfnaaGreatDoorGS
import Derived.Test.YtmibajbpimcfnaaGreatDoorGZ
import Derived.Test.YtmibajbpimcfnaaGreatDoorPA
import Derived.Test.YtmibajbpimcfnaaGreatDoorGH
set_option linter.unusedVariables false
set_option linter.unusedSimpArgs false
set_option maxRecDepth 4000
set_option maxHeartbeats 4000000
/- Package point: what it reads. -/
namespace Go.Proofs.YtmibajbpimcfnaaGreatDoor.fpn
open Go.RowKit Pl EC
theorem sq2_sqP {a:F2} (h:F2.is2 a=true):F2.sq2 a*F2.sq2 a=a:=by
 by_cases e:∃ r:F2,r*r=a
 ·obtain ⟨r,hr⟩:=e
  cases hg:r.great with
  | false=>rw [F2.sq2_of hr hg];exact hr
  | true =>
   have h0:r≠0:=fun e=>by rw [e,F2.great_zero'] at hg;cases hg
   have h1:-r*-r=a:=by rw [F2.neg_mul_neg'];exact hr
   rw [F2.sq2_of h1 (by rw [F2.great_neg' h0,hg];rfl)];exact h1
 ·rw [(F2.is2_no fun r hr=>e ⟨r,hr⟩).1] at h;cases h
theorem side1f {G:World→Prop} (K:FpK G) (r:F) (w:World) (hg:G w):Calls Tryz.prog 89 #[FV r,.bool false,.func (.func 90) #[] #[]] w (Ret (.tuple #[FV r,.int .i64 0]) w):=by
 have hp0:=Heap.start w
 go_enter Tryz.func89,Tryz.ntmps89
 refine sgsD [.alloc (FC r),.alloc (FC 0),.det (.int .i64 0)] [0,1,2] [0,0,0] (fun L d=>[d 0,.bool false,d 2,L.p 0,undef,undef,L.p 1,d 7]++U 11) (fun L=>[(L.b 0,FC r),(L.b 1,FC 0)]) hp0 ⟨
  oB,oZ rF,oA,
  trivial⟩ (fun L0 d0 w1 hp1=>?_)
 refine sgs [.alloc (FC 0)] [0] [0] (fun L=>[d0 0,.bool false,d0 2,L0.p 0,undef,undef,L0.p 1,d0 7,L.p 0]++U 10) (fun L=>[(L0.b 0,FC r),(L0.b 1,FC 0),(L.b 0,FC 0)]) hp1 ⟨
  oZ rF,
  trivial⟩ (fun L1 w2 hp2=>?_)
 refine wp_seq_k (fun K3 k3=>?_)
 refine sgsD [.det (.bool false),.det (.bool true)] [0,1] [0,1] (fun L d=>D d 0 3++([L0.p 0,undef,undef,L0.p 1]++(D d 7 3++([.bool true]++U 8)))) (fun L=>[(L0.b 0,FC r),(L0.b 1,FC 0),(L1.b 0,FC 0)]) hp2 ⟨
  oM,oN,
  trivial⟩ (fun L2 _ w3 hp3=>?_)
 refine cT ?_
 refine sgsD [.det (FV r),.store (.base 1) 0 (FC r) (FC r),.det (.int .i64 0)] [0,1,2] [0,1,3] (fun L d=>D d 0 6++([L0.p 1,.int .i64 0]++D d 8 11)) (fun L=>[(L0.b 0,FC r),(L0.b 1,FC r),(L1.b 0,FC 0)]) hp3 ⟨
  oL 0 0 rF,oT rF,oA,
  trivial⟩ (fun L3 _ w4 hp4=>?_)
 refine wp_ret ?_
 refine bodyPost_ret (v:=.tuple #[FV r,.int .i64 0]) ?_ rfl ?_
 ·exact rct rF rfl (by kernel_rfl) (by kernel_rfl) (hp4.bound 1 rfl).2
 ·exact ⟨rfl,hp4.bel⟩
theorem side1z {G:World→Prop} (K:FpK G) (r:F) (w:World) (hg:G w) (h0:r=0):Calls Tryz.prog 89 #[FV r,.bool true,.func (.func 90) #[] #[]] w (Ret (.tuple #[FV 0,.int .i64 3]) w):=by
 have hp0:=Heap.start w
 go_enter Tryz.func89,Tryz.ntmps89
 refine sgsD [.alloc (FC r),.alloc (FC 0),.det (.int .i64 0)] [0,1,2] [0,0,0] (fun L d=>[d 0,.bool true,d 2,L.p 0,undef,undef,L.p 1,d 7]++U 11) (fun L=>[(L.b 0,FC r),(L.b 1,FC 0)]) hp0 ⟨
  oB,oZ rF,oA,
  trivial⟩ (fun L0 d0 w1 hp1=>?_)
 refine sgs [.alloc (FC 0)] [0] [0] (fun L=>[d0 0,.bool true,d0 2,L0.p 0,undef,undef,L0.p 1,d0 7,L.p 0]++U 10) (fun L=>[(L0.b 0,FC r),(L0.b 1,FC 0),(L.b 0,FC 0)]) hp1 ⟨
  oZ rF,
  trivial⟩ (fun L1 w2 hp2=>?_)
 refine wp_seq_k (fun K3 k3=>?_)
 refine sgsD [.det (.bool true),.det (.bool false)] [0,1] [0,1] (fun L d=>D d 0 3++([L0.p 0,undef,undef,L0.p 1,d 7,L1.p 0,d 9,.bool false]++U 8)) (fun L=>[(L0.b 0,FC r),(L0.b 1,FC 0),(L1.b 0,FC 0)]) hp2 ⟨
  oM,oN,
  trivial⟩ (fun L2 _ w3 hp3=>?_)
 refine cfk (k3 _ _ ?_)
 refine wp_seq_k (fun K5 k5=>?_)
 refine sgsD [.det (FV r),.det (FV 0),.det (.bool true)] [0,1,2] [0,0,3] (fun L d=>D d 0 6++([L0.p 1,d 7,L1.p 0]++(D d 9 5++([.bool true]++D d 15 4)))) (fun L=>[(L0.b 0,FC r),(L0.b 1,FC 0),(L1.b 0,FC 0)]) hp3 ⟨
  oL 0 0 rF,oL 2 0 rF,oE (a:=r) (b:=0) qF (yes h0),
  trivial⟩ (fun L3 _ w4 hp4=>?_)
 refine cT ?_
 refine sgsD [.det (FV 0),.store (.base 1) 0 (FC 0) (FC 0),.det (.int .i64 3)] [0,1,2] [0,1,3] (fun L d=>D d 0 6++([L0.p 1,.int .i64 3]++D d 8 11)) (fun L=>[(L0.b 0,FC r),(L0.b 1,FC 0),(L1.b 0,FC 0)]) hp4 ⟨
  oL 2 0 rF,oT rF,oA,
  trivial⟩ (fun L4 _ w5 hp5=>?_)
 refine wp_ret ?_
 refine bodyPost_ret (v:=.tuple #[FV 0,.int .i64 3]) ?_ rfl ?_
 ·exact rct rF rfl (by kernel_rfl) (by kernel_rfl) (hp5.bound 1 rfl).2
 ·exact ⟨rfl,hp5.bel⟩
theorem side1n {G:World→Prop} (K:FpK G) (r:F) (w:World) (hg:G w) (h0:r≠0):Calls Tryz.prog 89 #[FV r,.bool true,.func (.func 90) #[] #[]] w (Ret (.tuple #[FV (-r),.int .i64 0]) w):=by
 have hp0:=Heap.start w
 go_enter Tryz.func89,Tryz.ntmps89
 refine sgsD [.alloc (FC r),.alloc (FC 0),.det (.int .i64 0)] [0,1,2] [0,0,0] (fun L d=>[d 0,.bool true,.func (.func 90) #[] #[],L.p 0,undef,undef,L.p 1,d 7]++U 11) (fun L=>[(L.b 0,FC r),(L.b 1,FC 0)]) hp0 ⟨
  oB,oZ rF,oA,
  trivial⟩ (fun L0 d0 w1 hp1=>?_)
 refine sgs [.alloc (FC 0)] [0] [0] (fun L=>[d0 0,.bool true,.func (.func 90) #[] #[],L0.p 0,undef,undef,L0.p 1,d0 7,L.p 0]++U 10) (fun L=>[(L0.b 0,FC r),(L0.b 1,FC 0),(L.b 0,FC 0)]) hp1 ⟨
  oZ rF,
  trivial⟩ (fun L1 w2 hp2=>?_)
 refine wp_seq_k (fun K3 k3=>?_)
 refine sgsD [.det (.bool true),.det (.bool false)] [0,1] [0,1] (fun L d=>D d 0 2++([.func (.func 90) #[] #[],L0.p 0,undef,undef,L0.p 1,d 7,L1.p 0,d 9,.bool false]++U 8)) (fun L=>[(L0.b 0,FC r),(L0.b 1,FC 0),(L1.b 0,FC 0)]) hp2 ⟨
  oM,oN,
  trivial⟩ (fun L2 _ w3 hp3=>?_)
 refine cfk (k3 _ _ ?_)
 refine wp_seq_k (fun K5 k5=>?_)
 refine sgsD [.det (FV r),.det (FV 0),.det (.bool false)] [0,1,2] [0,0,3] (fun L d=>D d 0 2++([.func (.func 90) #[] #[],L0.p 0]++(D d 4 2++([L0.p 1]++(D d 7 7++([.bool false]++D d 15 4)))))) (fun L=>[(L0.b 0,FC r),(L0.b 1,FC 0),(L1.b 0,FC 0)]) hp3 ⟨
  oL 0 0 rF,oL 2 0 rF,oE (a:=r) (b:=0) qF (nay h0),
  trivial⟩ (fun L3 _ w4 hp4=>?_)
 refine cfk (k5 _ _ ?_)
 refine sgsD [.det (.func (.func 90) #[] #[]),.det (FV r),.det (FV (-r)),.store (.base 1) 0 (FC (-r)) (FC (-r)),.det (.int .i64 0)] (nn 5) [0,0,3,7,15] (fun L d=>D d 0 6++([L0.p 1,.int .i64 0]++D d 8 11)) (fun L=>[(L0.b 0,FC r),(L0.b 1,FC (-r)),(L1.b 0,FC 0)]) hp4 ⟨
  oM,oL 0 0 rF,oCw K.stay hg (K.neg r),oT rF,oA,
  trivial⟩ (fun L4 _ w5 hp5=>?_)
 refine wp_ret ?_
 refine bodyPost_ret (v:=.tuple #[FV (-r),.int .i64 0]) ?_ rfl ?_
 ·exact rct rF rfl (by kernel_rfl) (by kernel_rfl) (hp5.bound 1 rfl).2
 ·exact ⟨rfl,hp5.bel⟩
theorem side2f {G:World→Prop} (K:FpK G) (r:F2) (w:World) (hg:G w):Calls Tryz.prog 99 #[PV r,.bool false,.func (.func 100) #[] #[]] w (Ret (.tuple #[PV r,.int .i64 0]) w):=by
 have hp0:=Heap.start w
 go_enter Tryz.func99,Tryz.ntmps99
 refine sgsD [.alloc (PC r),.alloc (PC 0),.det (.int .i64 0)] [0,1,2] [0,0,0] (fun L d=>[d 0,.bool false,d 2,L.p 0,undef,undef,L.p 1,d 7]++U 11) (fun L=>[(L.b 0,PC r),(L.b 1,PC 0)]) hp0 ⟨
  oB,oZ rP,oA,
  trivial⟩ (fun L0 d0 w1 hp1=>?_)
 refine sgs [.alloc (PC 0)] [0] [0] (fun L=>[d0 0,.bool false,d0 2,L0.p 0,undef,undef,L0.p 1,d0 7,L.p 0]++U 10) (fun L=>[(L0.b 0,PC r),(L0.b 1,PC 0),(L.b 0,PC 0)]) hp1 ⟨
  oZ rP,
  trivial⟩ (fun L1 w2 hp2=>?_)
 refine wp_seq_k (fun K3 k3=>?_)
 refine sgsD [.det (.bool false),.det (.bool true)] [0,1] [0,1] (fun L d=>D d 0 3++([L0.p 0,undef,undef,L0.p 1]++(D d 7 3++([.bool true]++U 8)))) (fun L=>[(L0.b 0,PC r),(L0.b 1,PC 0),(L1.b 0,PC 0)]) hp2 ⟨
  oM,oN,
  trivial⟩ (fun L2 _ w3 hp3=>?_)
 refine cT ?_
 refine sgsD [.det (PV r),.store (.base 1) 0 (PC r) (PC r),.det (.int .i64 0)] [0,1,2] [0,1,3] (fun L d=>D d 0 6++([L0.p 1,.int .i64 0]++D d 8 11)) (fun L=>[(L0.b 0,PC r),(L0.b 1,PC r),(L1.b 0,PC 0)]) hp3 ⟨
  oL 0 0 rP,oT rP,oA,
  trivial⟩ (fun L3 _ w4 hp4=>?_)
 refine wp_ret ?_
 refine bodyPost_ret (v:=.tuple #[PV r,.int .i64 0]) ?_ rfl ?_
 ·exact rct rP rfl (by kernel_rfl) (by kernel_rfl) (hp4.bound 1 rfl).2
 ·exact ⟨rfl,hp4.bel⟩
theorem side2z {G:World→Prop} (K:FpK G) (r:F2) (w:World) (hg:G w) (h0:r=0):Calls Tryz.prog 99 #[PV r,.bool true,.func (.func 100) #[] #[]] w (Ret (.tuple #[PV 0,.int .i64 3]) w):=by
 have hp0:=Heap.start w
 go_enter Tryz.func99,Tryz.ntmps99
 refine sgsD [.alloc (PC r),.alloc (PC 0),.det (.int .i64 0)] [0,1,2] [0,0,0] (fun L d=>[d 0,.bool true,d 2,L.p 0,undef,undef,L.p 1,d 7]++U 11) (fun L=>[(L.b 0,PC r),(L.b 1,PC 0)]) hp0 ⟨
  oB,oZ rP,oA,
  trivial⟩ (fun L0 d0 w1 hp1=>?_)
 refine sgs [.alloc (PC 0)] [0] [0] (fun L=>[d0 0,.bool true,d0 2,L0.p 0,undef,undef,L0.p 1,d0 7,L.p 0]++U 10) (fun L=>[(L0.b 0,PC r),(L0.b 1,PC 0),(L.b 0,PC 0)]) hp1 ⟨
  oZ rP,
  trivial⟩ (fun L1 w2 hp2=>?_)
 refine wp_seq_k (fun K3 k3=>?_)
 refine sgsD [.det (.bool true),.det (.bool false)] [0,1] [0,1] (fun L d=>D d 0 3++([L0.p 0,undef,undef,L0.p 1,d 7,L1.p 0,d 9,.bool false]++U 8)) (fun L=>[(L0.b 0,PC r),(L0.b 1,PC 0),(L1.b 0,PC 0)]) hp2 ⟨
  oM,oN,
  trivial⟩ (fun L2 _ w3 hp3=>?_)
 refine cfk (k3 _ _ ?_)
 refine wp_seq_k (fun K5 k5=>?_)
 refine sgsD [.det (PV r),.det (PV 0),.det (.bool true)] [0,1,2] [0,0,3] (fun L d=>D d 0 6++([L0.p 1,d 7,L1.p 0]++(D d 9 5++([.bool true]++D d 15 4)))) (fun L=>[(L0.b 0,PC r),(L0.b 1,PC 0),(L1.b 0,PC 0)]) hp3 ⟨
  oL 0 0 rP,oL 2 0 rP,oE (a:=r) (b:=0) qP (yes h0),
  trivial⟩ (fun L3 _ w4 hp4=>?_)
 refine cT ?_
 refine sgsD [.det (PV 0),.store (.base 1) 0 (PC 0) (PC 0),.det (.int .i64 3)] [0,1,2] [0,1,3] (fun L d=>D d 0 6++([L0.p 1,.int .i64 3]++D d 8 11)) (fun L=>[(L0.b 0,PC r),(L0.b 1,PC 0),(L1.b 0,PC 0)]) hp4 ⟨
  oL 2 0 rP,oT rP,oA,
  trivial⟩ (fun L4 _ w5 hp5=>?_)
 refine wp_ret ?_
 refine bodyPost_ret (v:=.tuple #[PV 0,.int .i64 3]) ?_ rfl ?_
 ·exact rct rP rfl (by kernel_rfl) (by kernel_rfl) (hp5.bound 1 rfl).2
 ·exact ⟨rfl,hp5.bel⟩
theorem side2n {G:World→Prop} (K:FpK G) (r:F2) (w:World) (hg:G w) (h0:r≠0):Calls Tryz.prog 99 #[PV r,.bool true,.func (.func 100) #[] #[]] w (Ret (.tuple #[PV (-r),.int .i64 0]) w):=by
 have hp0:=Heap.start w
 go_enter Tryz.func99,Tryz.ntmps99
 refine sgsD [.alloc (PC r),.alloc (PC 0),.det (.int .i64 0)] [0,1,2] [0,0,0] (fun L d=>[d 0,.bool true,.func (.func 100) #[] #[],L.p 0,undef,undef,L.p 1,d 7]++U 11) (fun L=>[(L.b 0,PC r),(L.b 1,PC 0)]) hp0 ⟨
  oB,oZ rP,oA,
  trivial⟩ (fun L0 d0 w1 hp1=>?_)
 refine sgs [.alloc (PC 0)] [0] [0] (fun L=>[d0 0,.bool true,.func (.func 100) #[] #[],L0.p 0,undef,undef,L0.p 1,d0 7,L.p 0]++U 10) (fun L=>[(L0.b 0,PC r),(L0.b 1,PC 0),(L.b 0,PC 0)]) hp1 ⟨
  oZ rP,
  trivial⟩ (fun L1 w2 hp2=>?_)
 refine wp_seq_k (fun K3 k3=>?_)
 refine sgsD [.det (.bool true),.det (.bool false)] [0,1] [0,1] (fun L d=>D d 0 2++([.func (.func 100) #[] #[],L0.p 0,undef,undef,L0.p 1,d 7,L1.p 0,d 9,.bool false]++U 8)) (fun L=>[(L0.b 0,PC r),(L0.b 1,PC 0),(L1.b 0,PC 0)]) hp2 ⟨
  oM,oN,
  trivial⟩ (fun L2 _ w3 hp3=>?_)
 refine cfk (k3 _ _ ?_)
 refine wp_seq_k (fun K5 k5=>?_)
 refine sgsD [.det (PV r),.det (PV 0),.det (.bool false)] [0,1,2] [0,0,3] (fun L d=>D d 0 2++([.func (.func 100) #[] #[],L0.p 0]++(D d 4 2++([L0.p 1]++(D d 7 7++([.bool false]++D d 15 4)))))) (fun L=>[(L0.b 0,PC r),(L0.b 1,PC 0),(L1.b 0,PC 0)]) hp3 ⟨
  oL 0 0 rP,oL 2 0 rP,oE (a:=r) (b:=0) qP (nay h0),
  trivial⟩ (fun L3 _ w4 hp4=>?_)
 refine cfk (k5 _ _ ?_)
 refine sgsD [.det (.func (.func 100) #[] #[]),.det (PV r),.det (PV (-r)),.store (.base 1) 0 (PC (-r)) (PC (-r)),.det (.int .i64 0)] (nn 5) [0,0,3,7,15] (fun L d=>D d 0 6++([L0.p 1,.int .i64 0]++D d 8 11)) (fun L=>[(L0.b 0,PC r),(L0.b 1,PC (-r)),(L1.b 0,PC 0)]) hp4 ⟨
  oM,oL 0 0 rP,oCw K.stay hg (fp2Neg K r),oT rP,oA,
  trivial⟩ (fun L4 _ w5 hp5=>?_)
 refine wp_ret ?_
 refine bodyPost_ret (v:=.tuple #[PV (-r),.int .i64 0]) ?_ rfl ?_
 ·exact rct rP rfl (by kernel_rfl) (by kernel_rfl) (hp5.bound 1 rfl).2
 ·exact ⟨rfl,hp5.bel⟩
theorem place1q {G:World→Prop} (K:FpK G) (a r:F) (gr:Bool) (w:World) (hg:G w) (hr:root (a*a*a+4)=r) (hq:isq (a*a*a+4)=false):Calls Tryz.prog 55 #[FV a,.bool gr] w (Ret (.tuple #[GV ⟨0,0,false⟩,.int .i64 5]) w):=by
 have hp0:=Heap.start w
 go_enter Tryz.func55,Tryz.ntmps55
 refine sgsD [.alloc (FC a),.alloc (GC ⟨0,0,false⟩),.det (.int .i64 0)] [0,1,2] [0,0,0] (fun L d=>D d 0 2++([L.p 0,d 3,L.p 1]++D d 5 34)) (fun L=>[(L.b 0,FC a),(L.b 1,GC ⟨0,0,false⟩)]) hp0 ⟨
  oB,oZ rG,oA,
  trivial⟩ (fun L0 _ w1 hp1=>?_)
 refine sdrD [.det (FV a),.det (FV a),.det (FV (a*a)),.det (FV a),.det (FV ((a*a)*a)),.alloc (FC 0),.store (.new 5) 0 (FC ((a*a)*a)) (FC ((a*a)*a))] (nn 7) [0,0,3,0,15,0,63] (fun L d=>D d 0 4++([L0.p 1,d 5,L.p 5]++D d 7 32)) (fun L=>[(L0.b 0,FC a),(L0.b 1,GC ⟨0,0,false⟩),(L.b 5,FC ((a*a)*a))]) hp1 ⟨
  oL 0 0 rF,oL 0 0 rF,oC K.stay hg (K.mul a a),oL 0 0 rF,oC K.stay hg (K.mul (a*a) a),oZ rF,oT rF,
  trivial⟩ (fun L1 _ w2 hp2=>?_)
 refine sgsD [.det (FV ((a*a)*a)),.det (FV 4),.det (FV (((a*a)*a)+4)),.det (.tuple #[FV r,.bool false]),.det (.tuple #[FV r,.bool false]),.det (FV r),.det (.bool false),.alloc (FC 0),.store (.new 7) 0 (FC r) (FC r),.det (.bool false)] (nn 10) [0,0,3,7,15,31,31,0,191,511] (fun L d=>D d 0 4++([L0.p 1]++(D d 5 3++([.bool false]++D d 9 30)))) (fun L=>[(L0.b 0,FC a),(L0.b 1,GC ⟨0,0,false⟩),(L1.b 5,FC ((a*a)*a)),(L.b 7,FC r)]) hp2 ⟨
  oL 2 0 rF,oD buildF4,oC K.stay hg (K.add ((a*a)*a) 4),oH (v:=.tuple #[FV r,.bool false]) (vs:=#[FV (((a*a)*a)+4)]) (fun w hb _=>by have h:=K.sqrt (a*a*a+4) w (K.stay hg hb);rw [hr,hq] at h;exact h),
  oM,oX,oX,oZ rF,oT rF,oA,
  trivial⟩ (fun L2 _ w3 hp3=>?_)
 refine wp_seq_k (fun K4 k4=>?_)
 refine sgsD [.det (.bool false),.det (.bool true)] [0,1] [0,1] (fun L d=>D d 0 4++([L0.p 1]++(D d 5 19++([.bool true]++D d 25 14)))) (fun L=>[(L0.b 0,FC a),(L0.b 1,GC ⟨0,0,false⟩),(L1.b 5,FC ((a*a)*a)),(L2.b 7,FC r)]) hp3 ⟨
  oM,oN,
  trivial⟩ (fun L3 _ w4 hp4=>?_)
 refine cT ?_
 refine sgsD [.det (GV ⟨0,0,false⟩),.store (.base 1) 0 (GC ⟨0,0,false⟩) (GC ⟨0,0,false⟩),.det (.int .i64 5)] [0,1,2] [0,1,3] (fun L d=>D d 0 4++([L0.p 1,.int .i64 5]++D d 6 33)) (fun L=>[(L0.b 0,FC a),(L0.b 1,GC ⟨0,0,false⟩),(L1.b 5,FC ((a*a)*a)),(L2.b 7,FC r)]) hp4 ⟨
  oD buildGn,oT rG,oA,
  trivial⟩ (fun L4 _ w5 hp5=>?_)
 refine wp_ret ?_
 refine bodyPost_ret (v:=.tuple #[GV ⟨0,0,false⟩,.int .i64 5]) ?_ rfl ?_
 ·exact rct rG rfl (by kernel_rfl) (by kernel_rfl) (hp5.bound 1 rfl).2
 ·exact ⟨rfl,hp5.bel⟩
theorem place1f {G:World→Prop} (K:FpK G) (a r:F) (gr:Bool) (w:World) (hg:G w) (hr:root (a*a*a+4)=r) (hq:isq (a*a*a+4)=true):Calls Tryz.prog 55 #[FV a,.bool false] w (Ret (.tuple #[GV ⟨a,r,false⟩,.int .i64 0]) w):=by
 have hp0:=Heap.start w
 go_enter Tryz.func55,Tryz.ntmps55
 refine sgsD [.alloc (FC a),.alloc (GC ⟨0,0,false⟩),.det (.int .i64 0)] [0,1,2] [0,0,0] (fun L d=>[d 0,.bool false,L.p 0,d 3,L.p 1]++D d 5 34) (fun L=>[(L.b 0,FC a),(L.b 1,GC ⟨0,0,false⟩)]) hp0 ⟨
  oB,oZ rG,oA,
  trivial⟩ (fun L0 _ w1 hp1=>?_)
 refine sdrD [.det (FV a),.det (FV a),.det (FV (a*a)),.det (FV a),.det (FV ((a*a)*a)),.alloc (FC 0),.store (.new 5) 0 (FC ((a*a)*a)) (FC ((a*a)*a))] (nn 7) [0,0,3,0,15,0,63] (fun L d=>[d 0,.bool false,L0.p 0,d 3,L0.p 1,d 5,L.p 5]++D d 7 32) (fun L=>[(L0.b 0,FC a),(L0.b 1,GC ⟨0,0,false⟩),(L.b 5,FC ((a*a)*a))]) hp1 ⟨
  oL 0 0 rF,oL 0 0 rF,oC K.stay hg (K.mul a a),oL 0 0 rF,oC K.stay hg (K.mul (a*a) a),oZ rF,oT rF,
  trivial⟩ (fun L1 _ w2 hp2=>?_)
 refine sgsD [.det (FV ((a*a)*a)),.det (FV 4),.det (FV (((a*a)*a)+4)),.det (.tuple #[FV r,.bool true]),.det (.tuple #[FV r,.bool true]),.det (FV r),.det (.bool true),.alloc (FC 0),.store (.new 7) 0 (FC r) (FC r),.det (.bool true)] (nn 10) [0,0,3,7,15,31,31,0,191,511] (fun L d=>[d 0,.bool false,L0.p 0,d 3,L0.p 1]++(D d 5 2++([L.p 7,.bool true]++D d 9 30))) (fun L=>[(L0.b 0,FC a),(L0.b 1,GC ⟨0,0,false⟩),(L1.b 5,FC ((a*a)*a)),(L.b 7,FC r)]) hp2 ⟨
  oL 2 0 rF,oD buildF4,oC K.stay hg (K.add ((a*a)*a) 4),oH (v:=.tuple #[FV r,.bool true]) (vs:=#[FV (((a*a)*a)+4)]) (fun w hb _=>by have h:=K.sqrt (a*a*a+4) w (K.stay hg hb);rw [hr,hq] at h;exact h),
  oM,oX,oX,oZ rF,oT rF,oA,
  trivial⟩ (fun L2 _ w3 hp3=>?_)
 refine wp_seq_k (fun K4 k4=>?_)
 refine sgsD [.det (.bool true),.det (.bool false)] [0,1] [0,1] (fun L d=>[d 0,.bool false,L0.p 0,d 3,L0.p 1]++(D d 5 2++([L2.p 7]++(D d 8 16++([.bool false]++D d 25 14))))) (fun L=>[(L0.b 0,FC a),(L0.b 1,GC ⟨0,0,false⟩),(L1.b 5,FC ((a*a)*a)),(L2.b 7,FC r)]) hp3 ⟨
  oM,oN,
  trivial⟩ (fun L3 _ w4 hp4=>?_)
 refine cfk (k4 _ _ ?_)
 refine sgsD [.det (FV r),.det (.bool false),.det (.tuple #[FV r,.int .i64 0]),.det (.tuple #[FV r,.int .i64 0]),.det (FV r),.det (.int .i64 0),.alloc (FC 0),.store (.new 6) 0 (FC r) (FC r),.det (.int .i64 0)] (nn 9) [0,0,3,7,15,15,0,95,255] (fun L d=>D d 0 2++([L0.p 0,d 3,L0.p 1]++(D d 5 4++([L.p 6,.int .i64 0]++D d 11 28)))) (fun L=>[(L0.b 0,FC a),(L0.b 1,GC ⟨0,0,false⟩),(L1.b 5,FC ((a*a)*a)),(L2.b 7,FC r),(L.b 6,FC r)]) hp4 ⟨
  oL 3 0 rF,oM,oC K.stay hg (side1f K r),oM,oX,oX,oZ rF,oT rF,oA,
  trivial⟩ (fun L4 _ w5 hp5=>?_)
 refine wp_seq_k (fun K7 k7=>?_)
 refine sgsD [.det (.int .i64 0),.det (.bool false)] [0,1] [0,1] (fun L d=>D d 0 2++([L0.p 0,d 3,L0.p 1]++(D d 5 4++([L4.p 6]++(D d 10 23++([.bool false]++D d 34 5)))))) (fun L=>[(L0.b 0,FC a),(L0.b 1,GC ⟨0,0,false⟩),(L1.b 5,FC ((a*a)*a)),(L2.b 7,FC r),(L4.b 6,FC r)]) hp5 ⟨
  oM,oJ .i64 .i64 0 0 (h:=fun w=>(neqI _ _ _ _ w).trans rfl),
  trivial⟩ (fun L5 _ w6 hp6=>?_)
 refine cfk (k7 _ _ ?_)
 refine sgsD [.det (FV a),.det (FV r),.det (GV ⟨a,r,false⟩),.store (.base 1) 0 (GC ⟨a,r,false⟩) (GC ⟨a,r,false⟩),.det (.int .i64 0)] (nn 5) [0,0,3,7,15] (fun L d=>D d 0 4++([L0.p 1,.int .i64 0]++D d 6 33)) (fun L=>[(L0.b 0,FC a),(L0.b 1,GC ⟨a,r,false⟩),(L1.b 5,FC ((a*a)*a)),(L2.b 7,FC r),(L4.b 6,FC r)]) hp6 ⟨
  oL 0 0 rF,oL 4 0 rF,oD (buildG01 a r),oT rG,oA,
  trivial⟩ (fun L6 _ w7 hp7=>?_)
 refine wp_ret ?_
 refine bodyPost_ret (v:=.tuple #[GV ⟨a,r,false⟩,.int .i64 0]) ?_ rfl ?_
 ·exact rct rG rfl (by kernel_rfl) (by kernel_rfl) (hp7.bound 1 rfl).2
 ·exact ⟨rfl,hp7.bel⟩
theorem place1z {G:World→Prop} (K:FpK G) (a r:F) (gr:Bool) (w:World) (hg:G w) (hr:root (a*a*a+4)=r) (hq:isq (a*a*a+4)=true) (h0:r=0):Calls Tryz.prog 55 #[FV a,.bool true] w (Ret (.tuple #[GV ⟨0,0,false⟩,.int .i64 3]) w):=by
 have hp0:=Heap.start w
 go_enter Tryz.func55,Tryz.ntmps55
 refine sgsD [.alloc (FC a),.alloc (GC ⟨0,0,false⟩),.det (.int .i64 0)] [0,1,2] [0,0,0] (fun L d=>[d 0,.bool true,L.p 0,d 3,L.p 1]++D d 5 34) (fun L=>[(L.b 0,FC a),(L.b 1,GC ⟨0,0,false⟩)]) hp0 ⟨
  oB,oZ rG,oA,
  trivial⟩ (fun L0 _ w1 hp1=>?_)
 refine sdrD [.det (FV a),.det (FV a),.det (FV (a*a)),.det (FV a),.det (FV ((a*a)*a)),.alloc (FC 0),.store (.new 5) 0 (FC ((a*a)*a)) (FC ((a*a)*a))] (nn 7) [0,0,3,0,15,0,63] (fun L d=>[d 0,.bool true]++(D d 2 2++([L0.p 1,d 5,L.p 5]++D d 7 32))) (fun L=>[(L0.b 0,FC a),(L0.b 1,GC ⟨0,0,false⟩),(L.b 5,FC ((a*a)*a))]) hp1 ⟨
  oL 0 0 rF,oL 0 0 rF,oC K.stay hg (K.mul a a),oL 0 0 rF,oC K.stay hg (K.mul (a*a) a),oZ rF,oT rF,
  trivial⟩ (fun L1 _ w2 hp2=>?_)
 refine sgsD [.det (FV ((a*a)*a)),.det (FV 4),.det (FV (((a*a)*a)+4)),.det (.tuple #[FV r,.bool true]),.det (.tuple #[FV r,.bool true]),.det (FV r),.det (.bool true),.alloc (FC 0),.store (.new 7) 0 (FC r) (FC r),.det (.bool true)] (nn 10) [0,0,3,7,15,31,31,0,191,511] (fun L d=>[d 0,.bool true]++(D d 2 2++([L0.p 1]++(D d 5 2++([L.p 7,.bool true]++D d 9 30))))) (fun L=>[(L0.b 0,FC a),(L0.b 1,GC ⟨0,0,false⟩),(L1.b 5,FC ((a*a)*a)),(L.b 7,FC r)]) hp2 ⟨
  oL 2 0 rF,oD buildF4,oC K.stay hg (K.add ((a*a)*a) 4),oH (v:=.tuple #[FV r,.bool true]) (vs:=#[FV (((a*a)*a)+4)]) (fun w hb _=>by have h:=K.sqrt (a*a*a+4) w (K.stay hg hb);rw [hr,hq] at h;exact h),
  oM,oX,oX,oZ rF,oT rF,oA,
  trivial⟩ (fun L2 _ w3 hp3=>?_)
 refine wp_seq_k (fun K4 k4=>?_)
 refine sgsD [.det (.bool true),.det (.bool false)] [0,1] [0,1] (fun L d=>[d 0,.bool true]++(D d 2 2++([L0.p 1]++(D d 5 2++([L2.p 7]++(D d 8 16++([.bool false]++D d 25 14))))))) (fun L=>[(L0.b 0,FC a),(L0.b 1,GC ⟨0,0,false⟩),(L1.b 5,FC ((a*a)*a)),(L2.b 7,FC r)]) hp3 ⟨
  oM,oN,
  trivial⟩ (fun L3 _ w4 hp4=>?_)
 refine cfk (k4 _ _ ?_)
 refine sgsD [.det (FV r),.det (.bool true),.det (.tuple #[FV 0,.int .i64 3]),.det (.tuple #[FV 0,.int .i64 3]),.det (FV 0),.det (.int .i64 3),.alloc (FC 0),.store (.new 6) 0 (FC 0) (FC 0),.det (.int .i64 3)] (nn 9) [0,0,3,7,15,15,0,95,255] (fun L d=>D d 0 4++([L0.p 1]++(D d 5 5++([.int .i64 3]++D d 11 28)))) (fun L=>[(L0.b 0,FC a),(L0.b 1,GC ⟨0,0,false⟩),(L1.b 5,FC ((a*a)*a)),(L2.b 7,FC r),(L.b 6,FC 0)]) hp4 ⟨
  oL 3 0 rF,oM,oH (v:=.tuple #[FV 0,.int .i64 3]) (vs:=#[FV r,.bool true,.func (.func 90) #[] #[]]) (fun w hb _=>side1z K r w (K.stay hg hb) h0),
  oM,oX,oX,oZ rF,oT rF,oA,
  trivial⟩ (fun L4 _ w5 hp5=>?_)
 refine wp_seq_k (fun K7 k7=>?_)
 refine sgsD [.det (.int .i64 3),.det (.bool true)] [0,1] [0,1] (fun L d=>D d 0 4++([L0.p 1]++(D d 5 5++([.int .i64 3]++(D d 11 22++([.bool true]++D d 34 5)))))) (fun L=>[(L0.b 0,FC a),(L0.b 1,GC ⟨0,0,false⟩),(L1.b 5,FC ((a*a)*a)),(L2.b 7,FC r),(L4.b 6,FC 0)]) hp5 ⟨
  oM,oJ .i64 .i64 3 0 (h:=fun w=>(neqI _ _ _ _ w).trans rfl),
  trivial⟩ (fun L5 _ w6 hp6=>?_)
 refine cT ?_
 refine sgsD [.det (GV ⟨0,0,false⟩),.det (.int .i64 3),.store (.base 1) 0 (GC ⟨0,0,false⟩) (GC ⟨0,0,false⟩),.det (.int .i64 3)] [0,1,2,3] [0,0,1,7] (fun L d=>D d 0 4++([L0.p 1,.int .i64 3]++D d 6 33)) (fun L=>[(L0.b 0,FC a),(L0.b 1,GC ⟨0,0,false⟩),(L1.b 5,FC ((a*a)*a)),(L2.b 7,FC r),(L4.b 6,FC 0)]) hp6 ⟨
  oD buildGn,oM,oT rG,oA,
  trivial⟩ (fun L6 _ w7 hp7=>?_)
 refine wp_ret ?_
 refine bodyPost_ret (v:=.tuple #[GV ⟨0,0,false⟩,.int .i64 3]) ?_ rfl ?_
 ·exact rct rG rfl (by kernel_rfl) (by kernel_rfl) (hp7.bound 1 rfl).2
 ·exact ⟨rfl,hp7.bel⟩
theorem place1n {G:World→Prop} (K:FpK G) (a r:F) (gr:Bool) (w:World) (hg:G w) (hr:root (a*a*a+4)=r) (hq:isq (a*a*a+4)=true) (h0:r≠0):Calls Tryz.prog 55 #[FV a,.bool true] w (Ret (.tuple #[GV ⟨a,-r,false⟩,.int .i64 0]) w):=by
 have hp0:=Heap.start w
 go_enter Tryz.func55,Tryz.ntmps55
 refine sgsD [.alloc (FC a),.alloc (GC ⟨0,0,false⟩),.det (.int .i64 0)] [0,1,2] [0,0,0] (fun L d=>[d 0,.bool true,L.p 0,d 3,L.p 1]++D d 5 34) (fun L=>[(L.b 0,FC a),(L.b 1,GC ⟨0,0,false⟩)]) hp0 ⟨
  oB,oZ rG,oA,
  trivial⟩ (fun L0 _ w1 hp1=>?_)
 refine sdrD [.det (FV a),.det (FV a),.det (FV (a*a)),.det (FV a),.det (FV ((a*a)*a)),.alloc (FC 0),.store (.new 5) 0 (FC ((a*a)*a)) (FC ((a*a)*a))] (nn 7) [0,0,3,0,15,0,63] (fun L d=>[d 0,.bool true,L0.p 0,d 3,L0.p 1,d 5,L.p 5]++D d 7 32) (fun L=>[(L0.b 0,FC a),(L0.b 1,GC ⟨0,0,false⟩),(L.b 5,FC ((a*a)*a))]) hp1 ⟨
  oL 0 0 rF,oL 0 0 rF,oC K.stay hg (K.mul a a),oL 0 0 rF,oC K.stay hg (K.mul (a*a) a),oZ rF,oT rF,
  trivial⟩ (fun L1 _ w2 hp2=>?_)
 refine sgsD [.det (FV ((a*a)*a)),.det (FV 4),.det (FV (((a*a)*a)+4)),.det (.tuple #[FV r,.bool true]),.det (.tuple #[FV r,.bool true]),.det (FV r),.det (.bool true),.alloc (FC 0),.store (.new 7) 0 (FC r) (FC r),.det (.bool true)] (nn 10) [0,0,3,7,15,31,31,0,191,511] (fun L d=>[d 0,.bool true,L0.p 0,d 3,L0.p 1]++(D d 5 2++([L.p 7,.bool true]++D d 9 30))) (fun L=>[(L0.b 0,FC a),(L0.b 1,GC ⟨0,0,false⟩),(L1.b 5,FC ((a*a)*a)),(L.b 7,FC r)]) hp2 ⟨
  oL 2 0 rF,oD buildF4,oC K.stay hg (K.add ((a*a)*a) 4),oH (v:=.tuple #[FV r,.bool true]) (vs:=#[FV (((a*a)*a)+4)]) (fun w hb _=>by have h:=K.sqrt (a*a*a+4) w (K.stay hg hb);rw [hr,hq] at h;exact h),
  oM,oX,oX,oZ rF,oT rF,oA,
  trivial⟩ (fun L2 _ w3 hp3=>?_)
 refine wp_seq_k (fun K4 k4=>?_)
 refine sgsD [.det (.bool true),.det (.bool false)] [0,1] [0,1] (fun L d=>[d 0,.bool true,L0.p 0,d 3,L0.p 1]++(D d 5 2++([L2.p 7]++(D d 8 16++([.bool false]++D d 25 14))))) (fun L=>[(L0.b 0,FC a),(L0.b 1,GC ⟨0,0,false⟩),(L1.b 5,FC ((a*a)*a)),(L2.b 7,FC r)]) hp3 ⟨
  oM,oN,
  trivial⟩ (fun L3 _ w4 hp4=>?_)
 refine cfk (k4 _ _ ?_)
 refine sgsD [.det (FV r),.det (.bool true),.det (.tuple #[FV (-r),.int .i64 0]),.det (.tuple #[FV (-r),.int .i64 0]),.det (FV (-r)),.det (.int .i64 0),.alloc (FC 0),.store (.new 6) 0 (FC (-r)) (FC (-r)),.det (.int .i64 0)] (nn 9) [0,0,3,7,15,15,0,95,255] (fun L d=>D d 0 2++([L0.p 0,d 3,L0.p 1]++(D d 5 4++([L.p 6,.int .i64 0]++D d 11 28)))) (fun L=>[(L0.b 0,FC a),(L0.b 1,GC ⟨0,0,false⟩),(L1.b 5,FC ((a*a)*a)),(L2.b 7,FC r),(L.b 6,FC (-r))]) hp4 ⟨
  oL 3 0 rF,oM,oH (v:=.tuple #[FV (-r),.int .i64 0]) (vs:=#[FV r,.bool true,.func (.func 90) #[] #[]]) (fun w hb _=>side1n K r w (K.stay hg hb) h0),
  oM,oX,oX,oZ rF,oT rF,oA,
  trivial⟩ (fun L4 _ w5 hp5=>?_)
 refine wp_seq_k (fun K7 k7=>?_)
 refine sgsD [.det (.int .i64 0),.det (.bool false)] [0,1] [0,1] (fun L d=>D d 0 2++([L0.p 0,d 3,L0.p 1]++(D d 5 4++([L4.p 6]++(D d 10 23++([.bool false]++D d 34 5)))))) (fun L=>[(L0.b 0,FC a),(L0.b 1,GC ⟨0,0,false⟩),(L1.b 5,FC ((a*a)*a)),(L2.b 7,FC r),(L4.b 6,FC (-r))]) hp5 ⟨
  oM,oJ .i64 .i64 0 0 (h:=fun w=>(neqI _ _ _ _ w).trans rfl),
  trivial⟩ (fun L5 _ w6 hp6=>?_)
 refine cfk (k7 _ _ ?_)
 refine sgsD [.det (FV a),.det (FV (-r)),.det (GV ⟨a,(-r),false⟩),.store (.base 1) 0 (GC ⟨a,(-r),false⟩) (GC ⟨a,(-r),false⟩),.det (.int .i64 0)] (nn 5) [0,0,3,7,15] (fun L d=>D d 0 4++([L0.p 1,.int .i64 0]++D d 6 33)) (fun L=>[(L0.b 0,FC a),(L0.b 1,GC ⟨a,(-r),false⟩),(L1.b 5,FC ((a*a)*a)),(L2.b 7,FC r),(L4.b 6,FC (-r))]) hp6 ⟨
  oL 0 0 rF,oL 4 0 rF,oD (buildG01 a (-r)),oT rG,oA,
  trivial⟩ (fun L6 _ w7 hp7=>?_)
 refine wp_ret ?_
 refine bodyPost_ret (v:=.tuple #[GV ⟨a,(-r),false⟩,.int .i64 0]) ?_ rfl ?_
 ·exact rct rG rfl (by kernel_rfl) (by kernel_rfl) (hp7.bound 1 rfl).2
 ·exact ⟨rfl,hp7.bel⟩
theorem place2q {G:World→Prop} (K:FpK G) (a r:F2) (gr:Bool) (w:World) (hg:G w) (hr:F2.sq2 (a*a*a+b2)=r) (hq:F2.is2 (a*a*a+b2)=false) (hH:∀ w,G w→w.rangeAt 2 0 (FC hf)):Calls Tryz.prog 61 #[PV a,.bool gr] w (Ret (.tuple #[T2.GV ⟨0,0,false⟩,.int .i64 5]) w):=by
 have hp0:=Heap.start w
 go_enter Tryz.func61,Tryz.ntmps61
 refine sgsD [.alloc (PC a),.alloc (T2.GC ⟨0,0,false⟩),.det (.int .i64 0)] [0,1,2] [0,0,0] (fun L d=>D d 0 2++([L.p 0,d 3,L.p 1]++D d 5 36)) (fun L=>[(L.b 0,PC a),(L.b 1,T2.GC ⟨0,0,false⟩)]) hp0 ⟨
  oB,oZ T2.rG,oA,
  trivial⟩ (fun L0 _ w1 hp1=>?_)
 refine sdrD [.det (PV a),.det (PV a),.det (PV (a*a)),.det (PV a),.det (PV ((a*a)*a)),.alloc (PC 0),.store (.new 5) 0 (PC ((a*a)*a)) (PC ((a*a)*a))] (nn 7) [0,0,3,0,15,0,63] (fun L d=>D d 0 4++([L0.p 1,d 5,L.p 5]++D d 7 34)) (fun L=>[(L0.b 0,PC a),(L0.b 1,T2.GC ⟨0,0,false⟩),(L.b 5,PC ((a*a)*a))]) hp1 ⟨
  oL 0 0 rP,oL 0 0 rP,oC K.stay hg (fp2Mul K a a),oL 0 0 rP,oC K.stay hg (fp2Mul K (a*a) a),oZ rP,oT rP,
  trivial⟩ (fun L1 _ w2 hp2=>?_)
 refine sgsD [.det (PV ((a*a)*a)),.det (FV 4),.det (FV 4),.det (PV ⟨4,4⟩),.det (PV (((a*a)*a)+⟨4,4⟩)),.det (.tuple #[PV r,.bool false]),.det (.tuple #[PV r,.bool false]),.det (PV r),.det (.bool false),.alloc (PC 0),.store (.new 9) 0 (PC r) (PC r),.det (.bool false)] (nn 12) [0,0,0,6,15,31,63,127,127,0,767,2047] (fun L d=>D d 0 4++([L0.p 1]++(D d 5 3++([.bool false]++D d 9 32)))) (fun L=>[(L0.b 0,PC a),(L0.b 1,T2.GC ⟨0,0,false⟩),(L1.b 5,PC ((a*a)*a)),(L.b 9,PC r)]) hp2 ⟨
  oL 2 0 rP,oD buildF4,oD buildF4,oD (buildP 4 4),oC K.stay hg (fp2Add K ((a*a)*a) ⟨4,4⟩),oH (v:=.tuple #[PV r,.bool false]) (vs:=#[PV (((a*a)*a)+⟨4,4⟩)]) (fun w hb _=>by have h:=fp2Sqrt K (a*a*a+b2) w (K.stay hg hb) hH;rw [hr,hq] at h;exact h),
  oM,oX,oX,oZ rP,oT rP,oA,
  trivial⟩ (fun L2 _ w3 hp3=>?_)
 refine wp_seq_k (fun K4 k4=>?_)
 refine sgsD [.det (.bool false),.det (.bool true)] [0,1] [0,1] (fun L d=>D d 0 4++([L0.p 1]++(D d 5 21++([.bool true]++D d 27 14)))) (fun L=>[(L0.b 0,PC a),(L0.b 1,T2.GC ⟨0,0,false⟩),(L1.b 5,PC ((a*a)*a)),(L2.b 9,PC r)]) hp3 ⟨
  oM,oN,
  trivial⟩ (fun L3 _ w4 hp4=>?_)
 refine cT ?_
 refine sgsD [.det (T2.GV ⟨0,0,false⟩),.store (.base 1) 0 (T2.GC ⟨0,0,false⟩) (T2.GC ⟨0,0,false⟩),.det (.int .i64 5)] [0,1,2] [0,1,3] (fun L d=>D d 0 4++([L0.p 1,.int .i64 5]++D d 6 35)) (fun L=>[(L0.b 0,PC a),(L0.b 1,T2.GC ⟨0,0,false⟩),(L1.b 5,PC ((a*a)*a)),(L2.b 9,PC r)]) hp4 ⟨
  oD T2.buildGn,oT T2.rG,oA,
  trivial⟩ (fun L4 _ w5 hp5=>?_)
 refine wp_ret ?_
 refine bodyPost_ret (v:=.tuple #[T2.GV ⟨0,0,false⟩,.int .i64 5]) ?_ rfl ?_
 ·exact rct T2.rG rfl (by kernel_rfl) (by kernel_rfl) (hp5.bound 1 rfl).2
 ·exact ⟨rfl,hp5.bel⟩
theorem place2f {G:World→Prop} (K:FpK G) (a r:F2) (gr:Bool) (w:World) (hg:G w) (hr:F2.sq2 (a*a*a+b2)=r) (hq:F2.is2 (a*a*a+b2)=true) (hH:∀ w,G w→w.rangeAt 2 0 (FC hf)):Calls Tryz.prog 61 #[PV a,.bool false] w (Ret (.tuple #[T2.GV ⟨a,r,false⟩,.int .i64 0]) w):=by
 have hp0:=Heap.start w
 go_enter Tryz.func61,Tryz.ntmps61
 refine sgsD [.alloc (PC a),.alloc (T2.GC ⟨0,0,false⟩),.det (.int .i64 0)] [0,1,2] [0,0,0] (fun L d=>[d 0,.bool false,L.p 0,d 3,L.p 1]++D d 5 36) (fun L=>[(L.b 0,PC a),(L.b 1,T2.GC ⟨0,0,false⟩)]) hp0 ⟨
  oB,oZ T2.rG,oA,
  trivial⟩ (fun L0 _ w1 hp1=>?_)
 refine sdrD [.det (PV a),.det (PV a),.det (PV (a*a)),.det (PV a),.det (PV ((a*a)*a)),.alloc (PC 0),.store (.new 5) 0 (PC ((a*a)*a)) (PC ((a*a)*a))] (nn 7) [0,0,3,0,15,0,63] (fun L d=>[d 0,.bool false,L0.p 0,d 3,L0.p 1,d 5,L.p 5]++D d 7 34) (fun L=>[(L0.b 0,PC a),(L0.b 1,T2.GC ⟨0,0,false⟩),(L.b 5,PC ((a*a)*a))]) hp1 ⟨
  oL 0 0 rP,oL 0 0 rP,oC K.stay hg (fp2Mul K a a),oL 0 0 rP,oC K.stay hg (fp2Mul K (a*a) a),oZ rP,oT rP,
  trivial⟩ (fun L1 _ w2 hp2=>?_)
 refine sgsD [.det (PV ((a*a)*a)),.det (FV 4),.det (FV 4),.det (PV ⟨4,4⟩),.det (PV (((a*a)*a)+⟨4,4⟩)),.det (.tuple #[PV r,.bool true]),.det (.tuple #[PV r,.bool true]),.det (PV r),.det (.bool true),.alloc (PC 0),.store (.new 9) 0 (PC r) (PC r),.det (.bool true)] (nn 12) [0,0,0,6,15,31,63,127,127,0,767,2047] (fun L d=>[d 0,.bool false,L0.p 0,d 3,L0.p 1]++(D d 5 2++([L.p 9,.bool true]++D d 9 32))) (fun L=>[(L0.b 0,PC a),(L0.b 1,T2.GC ⟨0,0,false⟩),(L1.b 5,PC ((a*a)*a)),(L.b 9,PC r)]) hp2 ⟨
  oL 2 0 rP,oD buildF4,oD buildF4,oD (buildP 4 4),oC K.stay hg (fp2Add K ((a*a)*a) ⟨4,4⟩),oH (v:=.tuple #[PV r,.bool true]) (vs:=#[PV (((a*a)*a)+⟨4,4⟩)]) (fun w hb _=>by have h:=fp2Sqrt K (a*a*a+b2) w (K.stay hg hb) hH;rw [hr,hq] at h;exact h),
  oM,oX,oX,oZ rP,oT rP,oA,
  trivial⟩ (fun L2 _ w3 hp3=>?_)
 refine wp_seq_k (fun K4 k4=>?_)
 refine sgsD [.det (.bool true),.det (.bool false)] [0,1] [0,1] (fun L d=>[d 0,.bool false,L0.p 0,d 3,L0.p 1]++(D d 5 2++([L2.p 9]++(D d 8 18++([.bool false]++D d 27 14))))) (fun L=>[(L0.b 0,PC a),(L0.b 1,T2.GC ⟨0,0,false⟩),(L1.b 5,PC ((a*a)*a)),(L2.b 9,PC r)]) hp3 ⟨
  oM,oN,
  trivial⟩ (fun L3 _ w4 hp4=>?_)
 refine cfk (k4 _ _ ?_)
 refine sgsD [.det (PV r),.det (.bool false),.det (.tuple #[PV r,.int .i64 0]),.det (.tuple #[PV r,.int .i64 0]),.det (PV r),.det (.int .i64 0),.alloc (PC 0),.store (.new 6) 0 (PC r) (PC r),.det (.int .i64 0)] (nn 9) [0,0,3,7,15,15,0,95,255] (fun L d=>D d 0 2++([L0.p 0,d 3,L0.p 1]++(D d 5 4++([L.p 6,.int .i64 0]++D d 11 30)))) (fun L=>[(L0.b 0,PC a),(L0.b 1,T2.GC ⟨0,0,false⟩),(L1.b 5,PC ((a*a)*a)),(L2.b 9,PC r),(L.b 6,PC r)]) hp4 ⟨
  oL 3 0 rP,oM,oC K.stay hg (side2f K r),oM,oX,oX,oZ rP,oT rP,oA,
  trivial⟩ (fun L4 _ w5 hp5=>?_)
 refine wp_seq_k (fun K7 k7=>?_)
 refine sgsD [.det (.int .i64 0),.det (.bool false)] [0,1] [0,1] (fun L d=>D d 0 2++([L0.p 0,d 3,L0.p 1]++(D d 5 4++([L4.p 6]++(D d 10 25++([.bool false]++D d 36 5)))))) (fun L=>[(L0.b 0,PC a),(L0.b 1,T2.GC ⟨0,0,false⟩),(L1.b 5,PC ((a*a)*a)),(L2.b 9,PC r),(L4.b 6,PC r)]) hp5 ⟨
  oM,oJ .i64 .i64 0 0 (h:=fun w=>(neqI _ _ _ _ w).trans rfl),
  trivial⟩ (fun L5 _ w6 hp6=>?_)
 refine cfk (k7 _ _ ?_)
 refine sgsD [.det (PV a),.det (PV r),.det (T2.GV ⟨a,r,false⟩),.store (.base 1) 0 (T2.GC ⟨a,r,false⟩) (T2.GC ⟨a,r,false⟩),.det (.int .i64 0)] (nn 5) [0,0,3,7,15] (fun L d=>D d 0 4++([L0.p 1,.int .i64 0]++D d 6 35)) (fun L=>[(L0.b 0,PC a),(L0.b 1,T2.GC ⟨a,r,false⟩),(L1.b 5,PC ((a*a)*a)),(L2.b 9,PC r),(L4.b 6,PC r)]) hp6 ⟨
  oL 0 0 rP,oL 4 0 rP,oD (T2.buildG01 a r),oT T2.rG,oA,
  trivial⟩ (fun L6 _ w7 hp7=>?_)
 refine wp_ret ?_
 refine bodyPost_ret (v:=.tuple #[T2.GV ⟨a,r,false⟩,.int .i64 0]) ?_ rfl ?_
 ·exact rct T2.rG rfl (by kernel_rfl) (by kernel_rfl) (hp7.bound 1 rfl).2
 ·exact ⟨rfl,hp7.bel⟩
theorem place2z {G:World→Prop} (K:FpK G) (a r:F2) (gr:Bool) (w:World) (hg:G w) (hr:F2.sq2 (a*a*a+b2)=r) (hq:F2.is2 (a*a*a+b2)=true) (h0:r=0) (hH:∀ w,G w→w.rangeAt 2 0 (FC hf)):Calls Tryz.prog 61 #[PV a,.bool true] w (Ret (.tuple #[T2.GV ⟨0,0,false⟩,.int .i64 3]) w):=by
 have hp0:=Heap.start w
 go_enter Tryz.func61,Tryz.ntmps61
 refine sgsD [.alloc (PC a),.alloc (T2.GC ⟨0,0,false⟩),.det (.int .i64 0)] [0,1,2] [0,0,0] (fun L d=>[d 0,.bool true,L.p 0,d 3,L.p 1]++D d 5 36) (fun L=>[(L.b 0,PC a),(L.b 1,T2.GC ⟨0,0,false⟩)]) hp0 ⟨
  oB,oZ T2.rG,oA,
  trivial⟩ (fun L0 _ w1 hp1=>?_)
 refine sdrD [.det (PV a),.det (PV a),.det (PV (a*a)),.det (PV a),.det (PV ((a*a)*a)),.alloc (PC 0),.store (.new 5) 0 (PC ((a*a)*a)) (PC ((a*a)*a))] (nn 7) [0,0,3,0,15,0,63] (fun L d=>[d 0,.bool true]++(D d 2 2++([L0.p 1,d 5,L.p 5]++D d 7 34))) (fun L=>[(L0.b 0,PC a),(L0.b 1,T2.GC ⟨0,0,false⟩),(L.b 5,PC ((a*a)*a))]) hp1 ⟨
  oL 0 0 rP,oL 0 0 rP,oC K.stay hg (fp2Mul K a a),oL 0 0 rP,oC K.stay hg (fp2Mul K (a*a) a),oZ rP,oT rP,
  trivial⟩ (fun L1 _ w2 hp2=>?_)
 refine sgsD [.det (PV ((a*a)*a)),.det (FV 4),.det (FV 4),.det (PV ⟨4,4⟩),.det (PV (((a*a)*a)+⟨4,4⟩)),.det (.tuple #[PV r,.bool true]),.det (.tuple #[PV r,.bool true]),.det (PV r),.det (.bool true),.alloc (PC 0),.store (.new 9) 0 (PC r) (PC r),.det (.bool true)] (nn 12) [0,0,0,6,15,31,63,127,127,0,767,2047] (fun L d=>[d 0,.bool true]++(D d 2 2++([L0.p 1]++(D d 5 2++([L.p 9,.bool true]++D d 9 32))))) (fun L=>[(L0.b 0,PC a),(L0.b 1,T2.GC ⟨0,0,false⟩),(L1.b 5,PC ((a*a)*a)),(L.b 9,PC r)]) hp2 ⟨
  oL 2 0 rP,oD buildF4,oD buildF4,oD (buildP 4 4),oC K.stay hg (fp2Add K ((a*a)*a) ⟨4,4⟩),oH (v:=.tuple #[PV r,.bool true]) (vs:=#[PV (((a*a)*a)+⟨4,4⟩)]) (fun w hb _=>by have h:=fp2Sqrt K (a*a*a+b2) w (K.stay hg hb) hH;rw [hr,hq] at h;exact h),
  oM,oX,oX,oZ rP,oT rP,oA,
  trivial⟩ (fun L2 _ w3 hp3=>?_)
 refine wp_seq_k (fun K4 k4=>?_)
 refine sgsD [.det (.bool true),.det (.bool false)] [0,1] [0,1] (fun L d=>[d 0,.bool true]++(D d 2 2++([L0.p 1]++(D d 5 2++([L2.p 9]++(D d 8 18++([.bool false]++D d 27 14))))))) (fun L=>[(L0.b 0,PC a),(L0.b 1,T2.GC ⟨0,0,false⟩),(L1.b 5,PC ((a*a)*a)),(L2.b 9,PC r)]) hp3 ⟨
  oM,oN,
  trivial⟩ (fun L3 _ w4 hp4=>?_)
 refine cfk (k4 _ _ ?_)
 refine sgsD [.det (PV r),.det (.bool true),.det (.tuple #[PV 0,.int .i64 3]),.det (.tuple #[PV 0,.int .i64 3]),.det (PV 0),.det (.int .i64 3),.alloc (PC 0),.store (.new 6) 0 (PC 0) (PC 0),.det (.int .i64 3)] (nn 9) [0,0,3,7,15,15,0,95,255] (fun L d=>D d 0 4++([L0.p 1]++(D d 5 5++([.int .i64 3]++D d 11 30)))) (fun L=>[(L0.b 0,PC a),(L0.b 1,T2.GC ⟨0,0,false⟩),(L1.b 5,PC ((a*a)*a)),(L2.b 9,PC r),(L.b 6,PC 0)]) hp4 ⟨
  oL 3 0 rP,oM,oH (v:=.tuple #[PV 0,.int .i64 3]) (vs:=#[PV r,.bool true,.func (.func 100) #[] #[]]) (fun w hb _=>side2z K r w (K.stay hg hb) h0),
  oM,oX,oX,oZ rP,oT rP,oA,
  trivial⟩ (fun L4 _ w5 hp5=>?_)
 refine wp_seq_k (fun K7 k7=>?_)
 refine sgsD [.det (.int .i64 3),.det (.bool true)] [0,1] [0,1] (fun L d=>D d 0 4++([L0.p 1]++(D d 5 5++([.int .i64 3]++(D d 11 24++([.bool true]++D d 36 5)))))) (fun L=>[(L0.b 0,PC a),(L0.b 1,T2.GC ⟨0,0,false⟩),(L1.b 5,PC ((a*a)*a)),(L2.b 9,PC r),(L4.b 6,PC 0)]) hp5 ⟨
  oM,oJ .i64 .i64 3 0 (h:=fun w=>(neqI _ _ _ _ w).trans rfl),
  trivial⟩ (fun L5 _ w6 hp6=>?_)
 refine cT ?_
 refine sgsD [.det (T2.GV ⟨0,0,false⟩),.det (.int .i64 3),.store (.base 1) 0 (T2.GC ⟨0,0,false⟩) (T2.GC ⟨0,0,false⟩),.det (.int .i64 3)] [0,1,2,3] [0,0,1,7] (fun L d=>D d 0 4++([L0.p 1,.int .i64 3]++D d 6 35)) (fun L=>[(L0.b 0,PC a),(L0.b 1,T2.GC ⟨0,0,false⟩),(L1.b 5,PC ((a*a)*a)),(L2.b 9,PC r),(L4.b 6,PC 0)]) hp6 ⟨
  oD T2.buildGn,oM,oT T2.rG,oA,
  trivial⟩ (fun L6 _ w7 hp7=>?_)
 refine wp_ret ?_
 refine bodyPost_ret (v:=.tuple #[T2.GV ⟨0,0,false⟩,.int .i64 3]) ?_ rfl ?_
 ·exact rct T2.rG rfl (by kernel_rfl) (by kernel_rfl) (hp7.bound 1 rfl).2
 ·exact ⟨rfl,hp7.bel⟩
theorem place2n {G:World→Prop} (K:FpK G) (a r:F2) (gr:Bool) (w:World) (hg:G w) (hr:F2.sq2 (a*a*a+b2)=r) (hq:F2.is2 (a*a*a+b2)=true) (h0:r≠0) (hH:∀ w,G w→w.rangeAt 2 0 (FC hf)):Calls Tryz.prog 61 #[PV a,.bool true] w (Ret (.tuple #[T2.GV ⟨a,-r,false⟩,.int .i64 0]) w):=by
 have hp0:=Heap.start w
 go_enter Tryz.func61,Tryz.ntmps61
 refine sgsD [.alloc (PC a),.alloc (T2.GC ⟨0,0,false⟩),.det (.int .i64 0)] [0,1,2] [0,0,0] (fun L d=>[d 0,.bool true,L.p 0,d 3,L.p 1]++D d 5 36) (fun L=>[(L.b 0,PC a),(L.b 1,T2.GC ⟨0,0,false⟩)]) hp0 ⟨
  oB,oZ T2.rG,oA,
  trivial⟩ (fun L0 _ w1 hp1=>?_)
 refine sdrD [.det (PV a),.det (PV a),.det (PV (a*a)),.det (PV a),.det (PV ((a*a)*a)),.alloc (PC 0),.store (.new 5) 0 (PC ((a*a)*a)) (PC ((a*a)*a))] (nn 7) [0,0,3,0,15,0,63] (fun L d=>[d 0,.bool true,L0.p 0,d 3,L0.p 1,d 5,L.p 5]++D d 7 34) (fun L=>[(L0.b 0,PC a),(L0.b 1,T2.GC ⟨0,0,false⟩),(L.b 5,PC ((a*a)*a))]) hp1 ⟨
  oL 0 0 rP,oL 0 0 rP,oC K.stay hg (fp2Mul K a a),oL 0 0 rP,oC K.stay hg (fp2Mul K (a*a) a),oZ rP,oT rP,
  trivial⟩ (fun L1 _ w2 hp2=>?_)
 refine sgsD [.det (PV ((a*a)*a)),.det (FV 4),.det (FV 4),.det (PV ⟨4,4⟩),.det (PV (((a*a)*a)+⟨4,4⟩)),.det (.tuple #[PV r,.bool true]),.det (.tuple #[PV r,.bool true]),.det (PV r),.det (.bool true),.alloc (PC 0),.store (.new 9) 0 (PC r) (PC r),.det (.bool true)] (nn 12) [0,0,0,6,15,31,63,127,127,0,767,2047] (fun L d=>[d 0,.bool true,L0.p 0,d 3,L0.p 1]++(D d 5 2++([L.p 9,.bool true]++D d 9 32))) (fun L=>[(L0.b 0,PC a),(L0.b 1,T2.GC ⟨0,0,false⟩),(L1.b 5,PC ((a*a)*a)),(L.b 9,PC r)]) hp2 ⟨
  oL 2 0 rP,oD buildF4,oD buildF4,oD (buildP 4 4),oC K.stay hg (fp2Add K ((a*a)*a) ⟨4,4⟩),oH (v:=.tuple #[PV r,.bool true]) (vs:=#[PV (((a*a)*a)+⟨4,4⟩)]) (fun w hb _=>by have h:=fp2Sqrt K (a*a*a+b2) w (K.stay hg hb) hH;rw [hr,hq] at h;exact h),
  oM,oX,oX,oZ rP,oT rP,oA,
  trivial⟩ (fun L2 _ w3 hp3=>?_)
 refine wp_seq_k (fun K4 k4=>?_)
 refine sgsD [.det (.bool true),.det (.bool false)] [0,1] [0,1] (fun L d=>[d 0,.bool true,L0.p 0,d 3,L0.p 1]++(D d 5 2++([L2.p 9]++(D d 8 18++([.bool false]++D d 27 14))))) (fun L=>[(L0.b 0,PC a),(L0.b 1,T2.GC ⟨0,0,false⟩),(L1.b 5,PC ((a*a)*a)),(L2.b 9,PC r)]) hp3 ⟨
  oM,oN,
  trivial⟩ (fun L3 _ w4 hp4=>?_)
 refine cfk (k4 _ _ ?_)
 refine sgsD [.det (PV r),.det (.bool true),.det (.tuple #[PV (-r),.int .i64 0]),.det (.tuple #[PV (-r),.int .i64 0]),.det (PV (-r)),.det (.int .i64 0),.alloc (PC 0),.store (.new 6) 0 (PC (-r)) (PC (-r)),.det (.int .i64 0)] (nn 9) [0,0,3,7,15,15,0,95,255] (fun L d=>D d 0 2++([L0.p 0,d 3,L0.p 1]++(D d 5 4++([L.p 6,.int .i64 0]++D d 11 30)))) (fun L=>[(L0.b 0,PC a),(L0.b 1,T2.GC ⟨0,0,false⟩),(L1.b 5,PC ((a*a)*a)),(L2.b 9,PC r),(L.b 6,PC (-r))]) hp4 ⟨
  oL 3 0 rP,oM,oH (v:=.tuple #[PV (-r),.int .i64 0]) (vs:=#[PV r,.bool true,.func (.func 100) #[] #[]]) (fun w hb _=>side2n K r w (K.stay hg hb) h0),
  oM,oX,oX,oZ rP,oT rP,oA,
  trivial⟩ (fun L4 _ w5 hp5=>?_)
 refine wp_seq_k (fun K7 k7=>?_)
 refine sgsD [.det (.int .i64 0),.det (.bool false)] [0,1] [0,1] (fun L d=>D d 0 2++([L0.p 0,d 3,L0.p 1]++(D d 5 4++([L4.p 6]++(D d 10 25++([.bool false]++D d 36 5)))))) (fun L=>[(L0.b 0,PC a),(L0.b 1,T2.GC ⟨0,0,false⟩),(L1.b 5,PC ((a*a)*a)),(L2.b 9,PC r),(L4.b 6,PC (-r))]) hp5 ⟨
  oM,oJ .i64 .i64 0 0 (h:=fun w=>(neqI _ _ _ _ w).trans rfl),
  trivial⟩ (fun L5 _ w6 hp6=>?_)
 refine cfk (k7 _ _ ?_)
 refine sgsD [.det (PV a),.det (PV (-r)),.det (T2.GV ⟨a,(-r),false⟩),.store (.base 1) 0 (T2.GC ⟨a,(-r),false⟩) (T2.GC ⟨a,(-r),false⟩),.det (.int .i64 0)] (nn 5) [0,0,3,7,15] (fun L d=>D d 0 4++([L0.p 1,.int .i64 0]++D d 6 35)) (fun L=>[(L0.b 0,PC a),(L0.b 1,T2.GC ⟨a,(-r),false⟩),(L1.b 5,PC ((a*a)*a)),(L2.b 9,PC r),(L4.b 6,PC (-r))]) hp6 ⟨
  oL 0 0 rP,oL 4 0 rP,oD (T2.buildG01 a (-r)),oT T2.rG,oA,
  trivial⟩ (fun L6 _ w7 hp7=>?_)
 refine wp_ret ?_
 refine bodyPost_ret (v:=.tuple #[T2.GV ⟨a,(-r),false⟩,.int .i64 0]) ?_ rfl ?_
 ·exact rct T2.rG rfl (by kernel_rfl) (by kernel_rfl) (hp7.bound 1 rfl).2
 ·exact ⟨rfl,hp7.bel⟩
end Go.Proofs.YtmibajbpimcfnaaGreatDoor.fpn
/- Package point: what it takes. -/
namespace Go.Proofs.YtmibajbpimcfnaaGreatDoor.fpn
open Go.RowKit Pl EC
theorem take1E (p:Option Addr) (n c:Nat) (e:Int) (w:World) (he:¬ e=0) (hR:∀ x,Below w.heap.size w x→Calls Tryz.prog 54 #[.slice p n c,.int .i64 48] x (Ret (.tuple #[TXV ⟨false,false,.slice none 0 0⟩,.int .i64 e]) x)):Calls Tryz.prog 23 #[.slice p n c] w (Ret (tkE e) w):=by
 have hp0:=Heap.start w
 go_enter Tryz.func23,Tryz.ntmps23
 refine sgsD [.alloc (GC ⟨0,0,false⟩),.det (.int .i64 0)] [0,1] [0,0] (fun L d=>[.slice p n c,d 1,L.p 0]++D d 3 35) (fun L=>[(L.b 0,GC ⟨0,0,false⟩)]) hp0 ⟨
  oZ rG,oA,
  trivial⟩ (fun L0 _ w1 hp1=>?_)
 refine sgsD [.det (.slice p n c),.det (.tuple #[TXV ⟨false,false,.slice none 0 0⟩,.int .i64 e]),.det (.tuple #[TXV ⟨false,false,.slice none 0 0⟩,.int .i64 e]),.det (TXV ⟨false,false,.slice none 0 0⟩),.det (.int .i64 e),.alloc (TXC ⟨false,false,.slice none 0 0⟩),.store (.new 5) 0 (TXC ⟨false,false,.slice none 0 0⟩) (TXC ⟨false,false,.slice none 0 0⟩),.det (.int .i64 e)] (nn 8) [0,1,3,7,7,0,47,127] (fun L d=>D d 0 2++([L0.p 0]++(D d 3 2++([.int .i64 e]++D d 6 32)))) (fun L=>[(L0.b 0,GC ⟨0,0,false⟩),(L.b 5,TXC ⟨false,false,.slice none 0 0⟩)]) hp1 ⟨
  oM,oH (v:=.tuple #[TXV ⟨false,false,.slice none 0 0⟩,.int .i64 e]) (vs:=#[.slice p n c,.int .i64 48]) (fun w hb _=>hR w hb),oM,oX,oX,oZ rTX,oT rTX,
  oA,
  trivial⟩ (fun L1 _ w2 hp2=>?_)
 refine wp_seq_k (fun K3 k3=>?_)
 refine sgsD [.det (.int .i64 e),.det (.bool true)] [0,1] [0,1] (fun L d=>D d 0 2++([L0.p 0]++(D d 3 2++([.int .i64 e]++(D d 6 7++([.bool true]++D d 14 24)))))) (fun L=>[(L0.b 0,GC ⟨0,0,false⟩),(L1.b 5,TXC ⟨false,false,.slice none 0 0⟩)]) hp2 ⟨
  oM,oJ .i64 .i64 e 0 (h:=fun w=>(neqI _ _ _ _ w).trans (by rw [decide_eq_false he];rfl)),
  trivial⟩ (fun L2 _ w3 hp3=>?_)
 refine cT ?_
 refine sgsD [.det (GV ⟨0,0,false⟩),.det (.int .i64 e),.store (.base 0) 0 (GC ⟨0,0,false⟩) (GC ⟨0,0,false⟩),.det (.int .i64 e)] [0,1,2,3] [0,0,1,7] (fun L d=>D d 0 2++([L0.p 0,.int .i64 e]++D d 4 34)) (fun L=>[(L0.b 0,GC ⟨0,0,false⟩),(L1.b 5,TXC ⟨false,false,.slice none 0 0⟩)]) hp3 ⟨
  oD buildGn,oM,oT rG,oA,
  trivial⟩ (fun L3 _ w4 hp4=>?_)
 refine wp_ret ?_
 refine bodyPost_ret (v:=.tuple #[GV ⟨0,0,false⟩,.int .i64 e]) ?_ rfl ?_
 ·exact rct rG rfl (by kernel_rfl) (by kernel_rfl) (hp4.bound 0 rfl).2
 ·exact ⟨rfl,hp4.bel⟩
theorem take1I (p:Option Addr) (n c:Nat) (w:World) (hR:∀ x,Below w.heap.size w x→Calls Tryz.prog 54 #[.slice p n c,.int .i64 48] x (Ret (.tuple #[TXV ⟨true,false,.slice none 0 0⟩,.int .i64 0]) x)):Calls Tryz.prog 23 #[.slice p n c] w (Ret (.tuple #[GV ⟨0,0,true⟩,.int .i64 0]) w):=by
 have hp0:=Heap.start w
 go_enter Tryz.func23,Tryz.ntmps23
 refine sgsD [.alloc (GC ⟨0,0,false⟩),.det (.int .i64 0)] [0,1] [0,0] (fun L d=>[.slice p n c,d 1,L.p 0]++D d 3 35) (fun L=>[(L.b 0,GC ⟨0,0,false⟩)]) hp0 ⟨
  oZ rG,oA,
  trivial⟩ (fun L0 _ w1 hp1=>?_)
 refine sgsD [.det (.slice p n c),.det (.tuple #[TXV ⟨true,false,.slice none 0 0⟩,.int .i64 0]),.det (.tuple #[TXV ⟨true,false,.slice none 0 0⟩,.int .i64 0]),.det (TXV ⟨true,false,.slice none 0 0⟩),.det (.int .i64 0),.alloc (TXC ⟨false,false,.slice none 0 0⟩),.store (.new 5) 0 (TXC ⟨true,false,.slice none 0 0⟩) (TXC ⟨true,false,.slice none 0 0⟩),.det (.int .i64 0)] (nn 8) [0,1,3,7,7,0,47,127] (fun L d=>D d 0 2++([L0.p 0,d 3,L.p 5,.int .i64 0]++D d 6 32)) (fun L=>[(L0.b 0,GC ⟨0,0,false⟩),(L.b 5,TXC ⟨true,false,.slice none 0 0⟩)]) hp1 ⟨
  oM,oH (v:=.tuple #[TXV ⟨true,false,.slice none 0 0⟩,.int .i64 0]) (vs:=#[.slice p n c,.int .i64 48]) (fun w hb _=>hR w hb),oM,oX,oX,oZ rTX,oT rTX,
  oA,
  trivial⟩ (fun L1 _ w2 hp2=>?_)
 refine wp_seq_k (fun K3 k3=>?_)
 refine sgsD [.det (.int .i64 0),.det (.bool false)] [0,1] [0,1] (fun L d=>D d 0 2++([L0.p 0,d 3,L1.p 5]++(D d 5 8++([.bool false]++D d 14 24)))) (fun L=>[(L0.b 0,GC ⟨0,0,false⟩),(L1.b 5,TXC ⟨true,false,.slice none 0 0⟩)]) hp2 ⟨
  oM,oJ .i64 .i64 0 0 (h:=fun w=>(neqI _ _ _ _ w).trans rfl),
  trivial⟩ (fun L2 _ w3 hp3=>?_)
 refine cfk (k3 _ _ ?_)
 refine wp_seq_k (fun K5 k5=>?_)
 refine sgsD [.det (L1.p 5),.det (.bool true)] [0,1] [0,1] (fun L d=>D d 0 2++([L0.p 0]++(D d 3 14++([.bool true]++D d 18 20)))) (fun L=>[(L0.b 0,GC ⟨0,0,false⟩),(L1.b 5,TXC ⟨true,false,.slice none 0 0⟩)]) hp3 ⟨
  oF fX0,oL1 1 0 oneB,
  trivial⟩ (fun L3 _ w4 hp4=>?_)
 refine cT ?_
 refine sgsD [.det (GV ⟨0,0,true⟩),.store (.base 0) 0 (GC ⟨0,0,true⟩) (GC ⟨0,0,true⟩),.det (.int .i64 0)] [0,1,2] [0,1,3] (fun L d=>D d 0 2++([L0.p 0,.int .i64 0]++D d 4 34)) (fun L=>[(L0.b 0,GC ⟨0,0,true⟩),(L1.b 5,TXC ⟨true,false,.slice none 0 0⟩)]) hp4 ⟨
  oD (buildGi true),oT rG,oA,
  trivial⟩ (fun L4 _ w5 hp5=>?_)
 refine wp_ret ?_
 refine bodyPost_ret (v:=.tuple #[GV ⟨0,0,true⟩,.int .i64 0]) ?_ rfl ?_
 ·exact rct rG rfl (by kernel_rfl) (by kernel_rfl) (hp5.bound 0 rfl).2
 ·exact ⟨rfl,hp5.bel⟩
theorem take1P {G:World→Prop} (K:FpOk G) (p:Option Addr) (n c:Nat) (a:F) (gr:Bool) (e:Int) (w:World) (hg:G w) (he:¬ e=0) (hR:∀ x,Below w.heap.size w x→Calls Tryz.prog 54 #[.slice p n c,.int .i64 48] x (RetN gr (FC a) 1 x)) (hP:∀ x,G x→Calls Tryz.prog 55 #[FV a,.bool gr] x (Ret (.tuple #[GV ⟨0,0,false⟩,.int .i64 e]) x)):Calls Tryz.prog 23 #[.slice p n c] w (Ret (tkE e) w):=by
 have hp0:=Heap.start w
 go_enter Tryz.func23,Tryz.ntmps23
 refine sgsD [.alloc (GC ⟨0,0,false⟩),.det (.int .i64 0)] [0,1] [0,0] (fun L d=>[.slice p n c,d 1,L.p 0]++D d 3 35) (fun L=>[(L.b 0,GC ⟨0,0,false⟩)]) hp0 ⟨
  oZ rG,oA,
  trivial⟩ (fun L0 _ w1 hp1=>?_)
 refine wp_seq_k (fun K2 k2=>?_)
 refine wp_region_list ?_
 refine gsC 2 [.det (.slice p n c),.any (isN w.heap.size [L0.b 0] gr (FC a) 1)] [0,1] [0,1] (fun L d=>D d 0 2++([L0.p 0]++(D d 3 6++([L.v 1]++D d 10 28)))) (fun L=>[(L0.b 0,GC ⟨0,0,false⟩)]) hp1 ⟨
  oM,oY (fun L=>#[.slice p n c,.int .i64 48]) (fun _ _ _ h hb=>h.stay hb) (fun L w hs=>newN hs [L0.b 0] (hR w hs.bel)),
  trivial⟩ (fun L1 _ w2 hp2 ha2=>?_)
 obtain ⟨kbN,cbN,eN,lbN,qbN,ubN,xbN⟩:=AnyF.at (ha2 (by kernel_rfl)) (j:=1) rfl rfl
 rw [eN]
 have hpN:=Heap.add hp2 qbN ubN xbN
 refine gsC 6 [.det (.tuple #[TXV ⟨false,gr,.slice (some ⟨kbN,0,none⟩) 1 cbN⟩,.int .i64 0]),.det (TXV ⟨false,gr,.slice (some ⟨kbN,0,none⟩) 1 cbN⟩),.det (.int .i64 0),.alloc (TXC ⟨false,false,.slice none 0 0⟩),.store (.new 3) 0 (TXC ⟨false,gr,.slice (some ⟨kbN,0,none⟩) 1 cbN⟩) (TXC ⟨false,gr,.slice (some ⟨kbN,0,none⟩) 1 cbN⟩),.det (.int .i64 0)] (nn 6) [0,1,3,7,15,31] (fun L d=>D d 0 2++([L0.p 0,d 3,L.p 3,.int .i64 0]++D d 6 32)) (fun L=>[(L0.b 0,GC ⟨0,0,false⟩),(kbN,FC a),(L.b 3,TXC ⟨false,gr,.slice (some ⟨kbN,0,none⟩) 1 cbN⟩)]) hpN ⟨
  oM,oX,oX,oZ rTX,oT rTX,oA,
  trivial⟩ (fun L2 _ w3 hp3 ha3=>?_)
 refine wpList_nil ?_
 refine k2 _ _ ?_
 refine wp_seq_k (fun K3 k3=>?_)
 refine sgsD [.det (.int .i64 0),.det (.bool false)] [0,1] [0,1] (fun L d=>D d 0 2++([L0.p 0,d 3,L2.p 3]++(D d 5 8++([.bool false]++D d 14 24)))) (fun L=>[(L0.b 0,GC ⟨0,0,false⟩),(kbN,FC a),(L2.b 3,TXC ⟨false,gr,.slice (some ⟨kbN,0,none⟩) 1 cbN⟩)]) hp3 ⟨
  oM,oJ .i64 .i64 0 0 (h:=fun w=>(neqI _ _ _ _ w).trans rfl),
  trivial⟩ (fun L3 _ w4 hp4=>?_)
 refine cfk (k3 _ _ ?_)
 refine wp_seq_k (fun K5 k5=>?_)
 refine sgsD [.det (L2.p 3),.det (.bool false)] [0,1] [0,1] (fun L d=>D d 0 2++([L0.p 0,d 3,L2.p 3]++(D d 5 12++([.bool false]++D d 18 20)))) (fun L=>[(L0.b 0,GC ⟨0,0,false⟩),(kbN,FC a),(L2.b 3,TXC ⟨false,gr,.slice (some ⟨kbN,0,none⟩) 1 cbN⟩)]) hp4 ⟨
  oF fX0,oL1 2 0 oneB,
  trivial⟩ (fun L4 _ w5 hp5=>?_)
 refine cfk (k5 _ _ ?_)
 refine sdrD [.det (pt (L2.b 3) 2),.det (.slice (some ⟨kbN,0,none⟩) 1 cbN),.det (pt kbN 0),.det (FV a),.det (pt (L2.b 3) 1),.det (.bool gr),.det (.tuple #[GV ⟨0,0,false⟩,.int .i64 e]),.det (.tuple #[GV ⟨0,0,false⟩,.int .i64 e]),.det (GV ⟨0,0,false⟩),.det (.int .i64 e),.alloc (GC ⟨0,0,false⟩),.store (.new 10) 0 (GC ⟨0,0,false⟩) (GC ⟨0,0,false⟩),.det (.int .i64 e)] (nn 13) [0,1,3,7,0,16,63,127,255,255,0,1535,4095] (fun L d=>D d 0 2++([L0.p 0]++(D d 3 2++([.int .i64 e]++D d 6 32)))) (fun L=>[(L0.b 0,GC ⟨0,0,false⟩),(kbN,FC a),(L2.b 3,TXC ⟨false,gr,.slice (some ⟨kbN,0,none⟩) 1 cbN⟩),(L.b 10,GC ⟨0,0,false⟩)]) hp5 ⟨
  oF fX2,oL1 2 2 oneFS,oIS (b:=kbN) (off:=0) (n:=1) (c:=cbN) (sz:=6) 0 Tryz.underlying83 rF.size (by decide),oL 1 0 rF,oF fX1,oL1 2 1 oneB,
  oC K.stay hg hP,oM,oX,oX,oZ rG,oT rG,oA,
  trivial⟩ (fun L5 _ w6 hp6=>?_)
 refine wp_seq_k (fun K8 k8=>?_)
 refine sgsD [.det (.int .i64 e),.det (.bool true)] [0,1] [0,1] (fun L d=>D d 0 2++([L0.p 0]++(D d 3 2++([.int .i64 e]++(D d 6 24++([.bool true]++D d 31 7)))))) (fun L=>[(L0.b 0,GC ⟨0,0,false⟩),(kbN,FC a),(L2.b 3,TXC ⟨false,gr,.slice (some ⟨kbN,0,none⟩) 1 cbN⟩),(L5.b 10,GC ⟨0,0,false⟩)]) hp6 ⟨
  oM,oJ .i64 .i64 e 0 (h:=fun w=>(neqI _ _ _ _ w).trans (by rw [decide_eq_false he];rfl)),
  trivial⟩ (fun L6 _ w7 hp7=>?_)
 refine cT ?_
 refine sgsD [.det (GV ⟨0,0,false⟩),.det (.int .i64 e),.store (.base 0) 0 (GC ⟨0,0,false⟩) (GC ⟨0,0,false⟩),.det (.int .i64 e)] [0,1,2,3] [0,0,1,7] (fun L d=>D d 0 2++([L0.p 0,.int .i64 e]++D d 4 34)) (fun L=>[(L0.b 0,GC ⟨0,0,false⟩),(kbN,FC a),(L2.b 3,TXC ⟨false,gr,.slice (some ⟨kbN,0,none⟩) 1 cbN⟩),(L5.b 10,GC ⟨0,0,false⟩)]) hp7 ⟨
  oD buildGn,oM,oT rG,oA,
  trivial⟩ (fun L7 _ w8 hp8=>?_)
 refine wp_ret ?_
 refine bodyPost_ret (v:=.tuple #[GV ⟨0,0,false⟩,.int .i64 e]) ?_ rfl ?_
 ·exact rct rG rfl (by kernel_rfl) (by kernel_rfl) (hp8.bound 0 rfl).2
 ·exact ⟨rfl,hp8.bel⟩
theorem take1O {G:World→Prop} (K:FpOk G) (p:Option Addr) (n c:Nat) (a:F) (gr:Bool) (y:F) (w:World) (hg:G w) (hO:On (4:F) (.aff a y)) (hR:∀ x,Below w.heap.size w x→Calls Tryz.prog 54 #[.slice p n c,.int .i64 48] x (RetN gr (FC a) 1 x)) (hP:∀ x,G x→Calls Tryz.prog 55 #[FV a,.bool gr] x (Ret (.tuple #[GV ⟨a,y,false⟩,.int .i64 0]) x)):Calls Tryz.prog 23 #[.slice p n c] w (Ret (bif decide (mul finv ordR (.aff a y)=.inf) then .tuple #[GV ⟨a,y,false⟩,.int .i64 0] else tkE 6) w):=by
 have fin0:(decide (mul finv ordR (.aff a y)=.inf))=true→Ending.returned (.tuple #[GV ⟨a,y,false⟩,.int .i64 0])=Ending.returned (bif decide (mul finv ordR (.aff a y)=.inf) then .tuple #[GV ⟨a,y,false⟩,.int .i64 0] else tkE 6):=by subst_vars;intro h1q;rw [h1q];rfl
 have fin1:(decide (mul finv ordR (.aff a y)=.inf))=false→Ending.returned (.tuple #[GV ⟨0,0,false⟩,.int .i64 6])=Ending.returned (bif decide (mul finv ordR (.aff a y)=.inf) then .tuple #[GV ⟨a,y,false⟩,.int .i64 0] else tkE 6):=by subst_vars;intro h1q;rw [h1q];rfl
 have hp0:=Heap.start w
 go_enter Tryz.func23,Tryz.ntmps23
 refine sgsD [.alloc (GC ⟨0,0,false⟩),.det (.int .i64 0)] [0,1] [0,0] (fun L d=>[.slice p n c,d 1,L.p 0]++D d 3 35) (fun L=>[(L.b 0,GC ⟨0,0,false⟩)]) hp0 ⟨
  oZ rG,oA,
  trivial⟩ (fun L0 d0 w1 hp1=>?_)
 refine wp_seq_k (fun K2 k2=>?_)
 refine wp_region_list ?_
 refine gsC 2 [.det (.slice p n c),.any (isN w.heap.size [L0.b 0] gr (FC a) 1)] [0,1] [0,1] (fun L d=>D d 0 2++([L0.p 0]++(D d 3 6++([L.v 1]++D d 10 28)))) (fun L=>[(L0.b 0,GC ⟨0,0,false⟩)]) hp1 ⟨
  oM,oY (fun L=>#[.slice p n c,.int .i64 48]) (fun _ _ _ h hb=>h.stay hb) (fun L w hs=>newN hs [L0.b 0] (hR w hs.bel)),
  trivial⟩ (fun L1 d1 w2 hp2 ha2=>?_)
 obtain ⟨kbN,cbN,eN,lbN,qbN,ubN,xbN⟩:=AnyF.at (ha2 (by kernel_rfl)) (j:=1) rfl rfl
 rw [eN]
 have hpN:=Heap.add hp2 qbN ubN xbN
 refine gsC 6 [.det (.tuple #[TXV ⟨false,gr,.slice (some ⟨kbN,0,none⟩) 1 cbN⟩,.int .i64 0]),.det (TXV ⟨false,gr,.slice (some ⟨kbN,0,none⟩) 1 cbN⟩),.det (.int .i64 0),.alloc (TXC ⟨false,false,.slice none 0 0⟩),.store (.new 3) 0 (TXC ⟨false,gr,.slice (some ⟨kbN,0,none⟩) 1 cbN⟩) (TXC ⟨false,gr,.slice (some ⟨kbN,0,none⟩) 1 cbN⟩),.det (.int .i64 0)] (nn 6) [0,1,3,7,15,31] (fun L d=>D d 0 2++([L0.p 0,d 3,L.p 3,.int .i64 0]++D d 6 32)) (fun L=>[(L0.b 0,GC ⟨0,0,false⟩),(kbN,FC a),(L.b 3,TXC ⟨false,gr,.slice (some ⟨kbN,0,none⟩) 1 cbN⟩)]) hpN ⟨
  oM,oX,oX,oZ rTX,oT rTX,oA,
  trivial⟩ (fun L2 d2 w3 hp3 ha3=>?_)
 refine wpList_nil ?_
 refine k2 _ _ ?_
 refine wp_seq_k (fun K3 k3=>?_)
 refine sgsD [.det (.int .i64 0),.det (.bool false)] [0,1] [0,1] (fun L d=>D d 0 2++([L0.p 0,d 3,L2.p 3]++(D d 5 8++([.bool false]++D d 14 24)))) (fun L=>[(L0.b 0,GC ⟨0,0,false⟩),(kbN,FC a),(L2.b 3,TXC ⟨false,gr,.slice (some ⟨kbN,0,none⟩) 1 cbN⟩)]) hp3 ⟨
  oM,oJ .i64 .i64 0 0 (h:=fun w=>(neqI _ _ _ _ w).trans rfl),
  trivial⟩ (fun L3 d3 w4 hp4=>?_)
 refine cfk (k3 _ _ ?_)
 refine wp_seq_k (fun K5 k5=>?_)
 refine sgsD [.det (L2.p 3),.det (.bool false)] [0,1] [0,1] (fun L d=>D d 0 2++([L0.p 0,d 3,L2.p 3]++(D d 5 12++([.bool false]++D d 18 20)))) (fun L=>[(L0.b 0,GC ⟨0,0,false⟩),(kbN,FC a),(L2.b 3,TXC ⟨false,gr,.slice (some ⟨kbN,0,none⟩) 1 cbN⟩)]) hp4 ⟨
  oF fX0,oL1 2 0 oneB,
  trivial⟩ (fun L4 d4 w5 hp5=>?_)
 refine cfk (k5 _ _ ?_)
 refine sdrD [.det (pt (L2.b 3) 2),.det (.slice (some ⟨kbN,0,none⟩) 1 cbN),.det (pt kbN 0),.det (FV a),.det (pt (L2.b 3) 1),.det (.bool gr),.det (.tuple #[GV ⟨a,y,false⟩,.int .i64 0]),.det (.tuple #[GV ⟨a,y,false⟩,.int .i64 0]),.det (GV ⟨a,y,false⟩),.det (.int .i64 0),.alloc (GC ⟨0,0,false⟩),.store (.new 10) 0 (GC ⟨a,y,false⟩) (GC ⟨a,y,false⟩),.det (.int .i64 0)] (nn 13) [0,1,3,7,0,16,63,127,255,255,0,1535,4095] (fun L d=>D d 0 2++([L0.p 0]++(D d 3 2++([.int .i64 0,L.p 10]++D d 7 31)))) (fun L=>[(L0.b 0,GC ⟨0,0,false⟩),(kbN,FC a),(L2.b 3,TXC ⟨false,gr,.slice (some ⟨kbN,0,none⟩) 1 cbN⟩),(L.b 10,GC ⟨a,y,false⟩)]) hp5 ⟨
  oF fX2,oL1 2 2 oneFS,oIS (b:=kbN) (off:=0) (n:=1) (c:=cbN) (sz:=6) 0 Tryz.underlying83 rF.size (by decide),oL 1 0 rF,oF fX1,oL1 2 1 oneB,
  oC K.stay hg hP,oM,oX,oX,oZ rG,oT rG,oA,
  trivial⟩ (fun L5 d5 w6 hp6=>?_)
 refine wp_seq_k (fun K8 k8=>?_)
 refine sgsD [.det (.int .i64 0),.det (.bool false)] [0,1] [0,1] (fun L d=>D d 0 2++([L0.p 0]++(D d 3 3++([L5.p 10]++(D d 7 23++([.bool false]++D d 31 7)))))) (fun L=>[(L0.b 0,GC ⟨0,0,false⟩),(kbN,FC a),(L2.b 3,TXC ⟨false,gr,.slice (some ⟨kbN,0,none⟩) 1 cbN⟩),(L5.b 10,GC ⟨a,y,false⟩)]) hp6 ⟨
  oM,oJ .i64 .i64 0 0 (h:=fun w=>(neqI _ _ _ _ w).trans rfl),
  trivial⟩ (fun L6 d6 w7 hp7=>?_)
 refine cfk (k8 _ _ ?_)
 refine wp_seq_k (fun K10 k10=>?_)
 refine sgsD [.det (GV ⟨a,y,false⟩),.det (.bool (decide (mul finv ordR (.aff a y)=.inf))),.det (.bool (!decide (mul finv ordR (.aff a y)=.inf)))] [0,1,2] [0,1,3] (fun L d=>D d 0 2++([L0.p 0]++(D d 3 3++([L5.p 10]++(D d 7 28++([.bool (!decide (mul finv ordR (.aff a y)=.inf))]++D d 36 2)))))) (fun L=>[(L0.b 0,GC ⟨0,0,false⟩),(kbN,FC a),(L2.b 3,TXC ⟨false,gr,.slice (some ⟨kbN,0,none⟩) 1 cbN⟩),(L5.b 10,GC ⟨a,y,false⟩)]) hp7 ⟨
  oL 3 0 rG,oH (v:=.bool (decide (mul finv ordR (.aff a y)=.inf))) (vs:=#[GV ⟨a,y,false⟩]) (fun w hb _=>g1In (fpK K) (.aff a y) w (K.stay hg hb) hO),
  oN,
  trivial⟩ (fun L7 d7 w8 hp8=>?_)
 rcases Bool.eq_false_or_eq_true (decide (mul finv ordR (.aff a y)=.inf)) with h1q | h1q
 ·skip
  refine cond_f (nt_t h1q) ?_
  refine skips ?_
  refine k10 _ _ ?_
  refine sgsD [.det (GV ⟨a,y,false⟩),.store (.base 0) 0 (GC ⟨a,y,false⟩) (GC ⟨a,y,false⟩),.det (.int .i64 0)] [0,1,2] [0,1,3] (fun L d=>D d 0 2++([L0.p 0,.int .i64 0]++D d 4 34)) (fun L=>[(L0.b 0,GC ⟨a,y,false⟩),(kbN,FC a),(L2.b 3,TXC ⟨false,gr,.slice (some ⟨kbN,0,none⟩) 1 cbN⟩),(L5.b 10,GC ⟨a,y,false⟩)]) hp8 ⟨
   oL 3 0 rG,oT rG,oA,
   trivial⟩ (fun L8 d8 w9 hp9=>?_)
  refine wp_ret ?_
  refine bodyPost_ret (v:=.tuple #[GV ⟨a,y,false⟩,.int .i64 0]) ?_ rfl ?_
  ·exact rct rG rfl (by kernel_rfl) (by kernel_rfl) (hp9.bound 0 rfl).2
  ·exact ⟨fin0 h1q,hp9.bel⟩
 ·skip
  refine cond_t (nt_f h1q) ?_
  refine sgsD [.det (GV ⟨0,0,false⟩),.store (.base 0) 0 (GC ⟨0,0,false⟩) (GC ⟨0,0,false⟩),.det (.int .i64 6)] [0,1,2] [0,1,3] (fun L d=>D d 0 2++([L0.p 0,.int .i64 6]++D d 4 34)) (fun L=>[(L0.b 0,GC ⟨0,0,false⟩),(kbN,FC a),(L2.b 3,TXC ⟨false,gr,.slice (some ⟨kbN,0,none⟩) 1 cbN⟩),(L5.b 10,GC ⟨a,y,false⟩)]) hp8 ⟨
   oD buildGn,oT rG,oA,
   trivial⟩ (fun L8 d8 w9 hp9=>?_)
  refine wp_ret ?_
  refine bodyPost_ret (v:=.tuple #[GV ⟨0,0,false⟩,.int .i64 6]) ?_ rfl ?_
  ·exact rct rG rfl (by kernel_rfl) (by kernel_rfl) (hp9.bound 0 rfl).2
  ·exact ⟨fin1 h1q,hp9.bel⟩
theorem take1_ok {G:World→Prop} (K:FpOk G) (p:Option Addr) (n c:Nat) (a:F) (gr:Bool) (w:World) (hg:G w) (hR:∀ x,Below w.heap.size w x→Calls Tryz.prog 54 #[.slice p n c,.int .i64 48] x (RetN gr (FC a) 1 x)):Calls Tryz.prog 23 #[.slice p n c] w (Ret (tk1 a gr) w):=by
 have L:=fpK K
 cases hq:isq (a*a*a+4) with
 | false =>
  have e:tk1 a gr=tkE 5:=by unfold tk1;rw [hq];rfl
  rw [e]
  exact take1P K p n c a gr 5 w hg (by decide) hR fun x hx=>place1q L _ _ gr x hx rfl hq
 | true =>
  obtain ⟨r,hr⟩:∃ r,r=root (a*a*a+4):=⟨_,rfl⟩
  have h:r*r=(a*a*a+4):=by rw [hr];exact root_sq hq
  have hO:On (4:F) (.aff a r):=h
  have hO':On (4:F) (.aff a (-r)):=show (-r)*(-r)=_ from by rw [show (-r)*(-r)=r*r by grind];exact h
  cases gr with
  | false =>
   have e:tk1 a false=(bif decide (mul finv ordR (.aff a r)=.inf) then .tuple #[GV ⟨a,r,false⟩,.int .i64 0] else tkE 6):=by unfold tk1;rw [hq,← hr,Bool.and_false,cond_true,cond_false,cond_false]
   rw [e]
   exact take1O K p n c a false r w hg hO hR fun x hx=>place1f L _ _ false x hx hr.symm hq
  | true =>
   by_cases h0:r=0
   ·have e:tk1 a true=tkE 3:=by unfold tk1;rw [hq,← hr,decide_eq_true h0];rfl
    rw [e]
    exact take1P K p n c a true 3 w hg (by decide) hR fun x hx=>place1z L _ _ true x hx hr.symm hq h0
   ·have e:tk1 a true=(bif decide (mul finv ordR (.aff a (-r))=.inf) then .tuple #[GV ⟨a,-r,false⟩,.int .i64 0] else tkE 6):=by unfold tk1;rw [hq,← hr,decide_eq_false h0,Bool.and_true,cond_true,cond_false,cond_true]
    rw [e]
    exact take1O K p n c a true (-r) w hg hO' hR fun x hx=>place1n L _ _ true x hx hr.symm hq h0
theorem pointTake1 {G:World→Prop} (K:FpOk G) (p:Option Addr) (n c:Nat) (g:Nat→Int) (w:World) (hg:G w) (l1:n≤c) (l2:c≤9223372036854775807) (hb:AtK .u8 w p n g) (rg:∀ j,j<n→0≤g j∧g j<256):Calls Tryz.prog 23 #[.slice p n c] w (Ret (tkA g n) w):=by
 unfold tkA
 by_cases h1:n<48
 ·rw [if_pos h1];exact take1E p n c 2 w (by decide) fun x _=>readShort p n c 48 x h1
 rw [if_neg h1]
 by_cases h2:48<n
 ·rw [if_pos h2];exact take1E p n c 8 w (by decide) fun x _=>readLong p n c 48 x h2
 rw [if_neg h2]
 obtain rfl:n=48:=by omega
 obtain ⟨q,off,rfl,-⟩:=id hb (by decide)
 obtain ⟨r0,r1⟩:=rg 0 (by decide)
 by_cases hl:g 0 / 32<4
 ·rw [if_pos hl];exact take1E _ 48 c 3 w (by decide) fun x hx=>readLow 48 q off c g (by decide) (by decide) x (AtK.below hb hx) r0 r1 hl
 rw [if_neg hl]
 by_cases h6:6≤g 0 / 32
 ·rw [if_pos h6]
  have hR:=fun ti e hI x (hx:Below w.heap.size w x)=>readInf_ 48 q off c g ti e (by decide) (by decide) x (AtK.below hb hx) r0 r1 hl h6 hI
  by_cases h7:g 0 / 32=7
  ·rw [show hdz g 48=false by unfold hdz;exact decide_eq_false fun h=>h.2 h7]
   exact take1E _ 48 c 3 w (by decide) (hR false 3 fun k c w hc hq=>readInfG _ 48 k c _ w (and32t r0 r1 h7) hc hq)
  ·rw [show hdz g 48=ntz (su g 0 (g 0%32)) 48 by unfold hdz ntz;rw [decide_eq_decide];exact ⟨fun h=>h.1,fun h=>⟨h,h7⟩⟩]
   cases hz:ntz (su g 0 (g 0%32)) 48 with
   | true=>exact take1I _ 48 c w (hR true 0 fun k c w hc hq=>readInfT _ 48 k c _ w (and32s r0 r1 h6 h7) hc hq hz)
   | false=>exact take1E _ 48 c 3 w (by decide) (hR false 3 fun k c w hc hq=>readInfF _ 48 k c _ w (and32s r0 r1 h6 h7) hc hq hz)
 rw [if_neg h6]
 have rf:=su_rg rg (by decide)
 have hR:=fun hI x (hx:Below w.heap.size w x)=>readBig 48 q off c g false 4 K.stay (by decide) (by decide) x (AtK.below hb hx) r0 r1 hl h6 (K.stay hg hx) hI
 have e0:(fun j=>(su g 0 (g 0%32)) (0+j))=(su g 0 (g 0%32)):=funext fun j=>by rw [Nat.zero_add]
 by_cases ha:bv (su g 0 (g 0%32)) 48<RI
 ·rw [if_pos ha]
  exact take1_ok K _ 48 c _ _ w hg fun x hx=>readOk 48 q off c g _ (FC (ofB (su g 0 (g 0%32)))) 1 K.stay (by decide) (by decide) x (AtK.below hb hx) r0 r1 hl h6 (K.stay hg hx) fun k c w hw hc hm hq=>readPlace1 K _ _ _ k c _ (ofB (su g 0 (g 0%32))) w hw rfl (and32p r0 r1 hl h6) hc hm hq rf (by rw [e0];exact ofB_val rf ha)
 ·rw [if_neg ha]
  exact take1E _ 48 c 4 w (by decide) (hR fun k c w hw hc hm hq=>readPlace1b0 K _ _ _ k c _ w hw rfl rfl hc hm hq rf (by rw [e0];omega))
theorem take2E (p:Option Addr) (n c:Nat) (e:Int) (w:World) (he:¬ e=0) (hR:∀ x,Below w.heap.size w x→Calls Tryz.prog 54 #[.slice p n c,.int .i64 96] x (Ret (.tuple #[TXV ⟨false,false,.slice none 0 0⟩,.int .i64 e]) x)):Calls Tryz.prog 25 #[.slice p n c] w (Ret (T2.tkF e) w):=by
 have hp0:=Heap.start w
 go_enter Tryz.func25,Tryz.ntmps25
 refine sgsD [.alloc (T2.GC ⟨0,0,false⟩),.det (.int .i64 0)] [0,1] [0,0] (fun L d=>[.slice p n c,d 1,L.p 0]++D d 3 40) (fun L=>[(L.b 0,T2.GC ⟨0,0,false⟩)]) hp0 ⟨
  oZ T2.rG,oA,
  trivial⟩ (fun L0 _ w1 hp1=>?_)
 refine sgsD [.det (.slice p n c),.det (.tuple #[TXV ⟨false,false,.slice none 0 0⟩,.int .i64 e]),.det (.tuple #[TXV ⟨false,false,.slice none 0 0⟩,.int .i64 e]),.det (TXV ⟨false,false,.slice none 0 0⟩),.det (.int .i64 e),.alloc (TXC ⟨false,false,.slice none 0 0⟩),.store (.new 5) 0 (TXC ⟨false,false,.slice none 0 0⟩) (TXC ⟨false,false,.slice none 0 0⟩),.det (.int .i64 e)] (nn 8) [0,1,3,7,7,0,47,127] (fun L d=>D d 0 2++([L0.p 0]++(D d 3 2++([.int .i64 e]++D d 6 37)))) (fun L=>[(L0.b 0,T2.GC ⟨0,0,false⟩),(L.b 5,TXC ⟨false,false,.slice none 0 0⟩)]) hp1 ⟨
  oM,oH (v:=.tuple #[TXV ⟨false,false,.slice none 0 0⟩,.int .i64 e]) (vs:=#[.slice p n c,.int .i64 96]) (fun w hb _=>hR w hb),oM,oX,oX,oZ rTX,oT rTX,
  oA,
  trivial⟩ (fun L1 _ w2 hp2=>?_)
 refine wp_seq_k (fun K3 k3=>?_)
 refine sgsD [.det (.int .i64 e),.det (.bool true)] [0,1] [0,1] (fun L d=>D d 0 2++([L0.p 0]++(D d 3 2++([.int .i64 e]++(D d 6 7++([.bool true]++D d 14 29)))))) (fun L=>[(L0.b 0,T2.GC ⟨0,0,false⟩),(L1.b 5,TXC ⟨false,false,.slice none 0 0⟩)]) hp2 ⟨
  oM,oJ .i64 .i64 e 0 (h:=fun w=>(neqI _ _ _ _ w).trans (by rw [decide_eq_false he];rfl)),
  trivial⟩ (fun L2 _ w3 hp3=>?_)
 refine cT ?_
 refine sgsD [.det (T2.GV ⟨0,0,false⟩),.det (.int .i64 e),.store (.base 0) 0 (T2.GC ⟨0,0,false⟩) (T2.GC ⟨0,0,false⟩),.det (.int .i64 e)] [0,1,2,3] [0,0,1,7] (fun L d=>D d 0 2++([L0.p 0,.int .i64 e]++D d 4 39)) (fun L=>[(L0.b 0,T2.GC ⟨0,0,false⟩),(L1.b 5,TXC ⟨false,false,.slice none 0 0⟩)]) hp3 ⟨
  oD T2.buildGn,oM,oT T2.rG,oA,
  trivial⟩ (fun L3 _ w4 hp4=>?_)
 refine wp_ret ?_
 refine bodyPost_ret (v:=.tuple #[T2.GV ⟨0,0,false⟩,.int .i64 e]) ?_ rfl ?_
 ·exact rct T2.rG rfl (by kernel_rfl) (by kernel_rfl) (hp4.bound 0 rfl).2
 ·exact ⟨rfl,hp4.bel⟩
theorem take2I (p:Option Addr) (n c:Nat) (w:World) (hR:∀ x,Below w.heap.size w x→Calls Tryz.prog 54 #[.slice p n c,.int .i64 96] x (Ret (.tuple #[TXV ⟨true,false,.slice none 0 0⟩,.int .i64 0]) x)):Calls Tryz.prog 25 #[.slice p n c] w (Ret (.tuple #[T2.GV ⟨0,0,true⟩,.int .i64 0]) w):=by
 have hp0:=Heap.start w
 go_enter Tryz.func25,Tryz.ntmps25
 refine sgsD [.alloc (T2.GC ⟨0,0,false⟩),.det (.int .i64 0)] [0,1] [0,0] (fun L d=>[.slice p n c,d 1,L.p 0]++D d 3 40) (fun L=>[(L.b 0,T2.GC ⟨0,0,false⟩)]) hp0 ⟨
  oZ T2.rG,oA,
  trivial⟩ (fun L0 _ w1 hp1=>?_)
 refine sgsD [.det (.slice p n c),.det (.tuple #[TXV ⟨true,false,.slice none 0 0⟩,.int .i64 0]),.det (.tuple #[TXV ⟨true,false,.slice none 0 0⟩,.int .i64 0]),.det (TXV ⟨true,false,.slice none 0 0⟩),.det (.int .i64 0),.alloc (TXC ⟨false,false,.slice none 0 0⟩),.store (.new 5) 0 (TXC ⟨true,false,.slice none 0 0⟩) (TXC ⟨true,false,.slice none 0 0⟩),.det (.int .i64 0)] (nn 8) [0,1,3,7,7,0,47,127] (fun L d=>D d 0 2++([L0.p 0,d 3,L.p 5,.int .i64 0]++D d 6 37)) (fun L=>[(L0.b 0,T2.GC ⟨0,0,false⟩),(L.b 5,TXC ⟨true,false,.slice none 0 0⟩)]) hp1 ⟨
  oM,oH (v:=.tuple #[TXV ⟨true,false,.slice none 0 0⟩,.int .i64 0]) (vs:=#[.slice p n c,.int .i64 96]) (fun w hb _=>hR w hb),oM,oX,oX,oZ rTX,oT rTX,
  oA,
  trivial⟩ (fun L1 _ w2 hp2=>?_)
 refine wp_seq_k (fun K3 k3=>?_)
 refine sgsD [.det (.int .i64 0),.det (.bool false)] [0,1] [0,1] (fun L d=>D d 0 2++([L0.p 0,d 3,L1.p 5]++(D d 5 8++([.bool false]++D d 14 29)))) (fun L=>[(L0.b 0,T2.GC ⟨0,0,false⟩),(L1.b 5,TXC ⟨true,false,.slice none 0 0⟩)]) hp2 ⟨
  oM,oJ .i64 .i64 0 0 (h:=fun w=>(neqI _ _ _ _ w).trans rfl),
  trivial⟩ (fun L2 _ w3 hp3=>?_)
 refine cfk (k3 _ _ ?_)
 refine wp_seq_k (fun K5 k5=>?_)
 refine sgsD [.det (L1.p 5),.det (.bool true)] [0,1] [0,1] (fun L d=>D d 0 2++([L0.p 0]++(D d 3 14++([.bool true]++D d 18 25)))) (fun L=>[(L0.b 0,T2.GC ⟨0,0,false⟩),(L1.b 5,TXC ⟨true,false,.slice none 0 0⟩)]) hp3 ⟨
  oF fX0,oL1 1 0 oneB,
  trivial⟩ (fun L3 _ w4 hp4=>?_)
 refine cT ?_
 refine sgsD [.det (T2.GV ⟨0,0,true⟩),.store (.base 0) 0 (T2.GC ⟨0,0,true⟩) (T2.GC ⟨0,0,true⟩),.det (.int .i64 0)] [0,1,2] [0,1,3] (fun L d=>D d 0 2++([L0.p 0,.int .i64 0]++D d 4 39)) (fun L=>[(L0.b 0,T2.GC ⟨0,0,true⟩),(L1.b 5,TXC ⟨true,false,.slice none 0 0⟩)]) hp4 ⟨
  oD (T2.buildGi true),oT T2.rG,oA,
  trivial⟩ (fun L4 _ w5 hp5=>?_)
 refine wp_ret ?_
 refine bodyPost_ret (v:=.tuple #[T2.GV ⟨0,0,true⟩,.int .i64 0]) ?_ rfl ?_
 ·exact rct T2.rG rfl (by kernel_rfl) (by kernel_rfl) (hp5.bound 0 rfl).2
 ·exact ⟨rfl,hp5.bel⟩
theorem take2P {G:World→Prop} (K:FpOk G) (p:Option Addr) (n c:Nat) (a0 a1:F) (gr:Bool) (e:Int) (w:World) (hg:G w) (he:¬ e=0) (hR:∀ x,Below w.heap.size w x→Calls Tryz.prog 54 #[.slice p n c,.int .i64 96] x (RetN gr (PC ⟨a1,a0⟩) 2 x)) (hP:∀ x,G x→Calls Tryz.prog 61 #[PV ⟨a0,a1⟩,.bool gr] x (Ret (.tuple #[T2.GV ⟨0,0,false⟩,.int .i64 e]) x)):Calls Tryz.prog 25 #[.slice p n c] w (Ret (T2.tkF e) w):=by
 have hp0:=Heap.start w
 go_enter Tryz.func25,Tryz.ntmps25
 refine sgsD [.alloc (T2.GC ⟨0,0,false⟩),.det (.int .i64 0)] [0,1] [0,0] (fun L d=>[.slice p n c,d 1,L.p 0]++D d 3 40) (fun L=>[(L.b 0,T2.GC ⟨0,0,false⟩)]) hp0 ⟨
  oZ T2.rG,oA,
  trivial⟩ (fun L0 _ w1 hp1=>?_)
 refine wp_seq_k (fun K2 k2=>?_)
 refine wp_region_list ?_
 refine gsC 2 [.det (.slice p n c),.any (isN w.heap.size [L0.b 0] gr (PC ⟨a1,a0⟩) 2)] [0,1] [0,1] (fun L d=>D d 0 2++([L0.p 0]++(D d 3 6++([L.v 1]++D d 10 33)))) (fun L=>[(L0.b 0,T2.GC ⟨0,0,false⟩)]) hp1 ⟨
  oM,oY (fun L=>#[.slice p n c,.int .i64 96]) (fun _ _ _ h hb=>h.stay hb) (fun L w hs=>newN hs [L0.b 0] (hR w hs.bel)),
  trivial⟩ (fun L1 _ w2 hp2 ha2=>?_)
 obtain ⟨kbN,cbN,eN,lbN,qbN,ubN,xbN⟩:=AnyF.at (ha2 (by kernel_rfl)) (j:=1) rfl rfl
 rw [eN]
 have hpN:=Heap.add hp2 qbN ubN xbN
 refine gsC 6 [.det (.tuple #[TXV ⟨false,gr,.slice (some ⟨kbN,0,none⟩) 2 cbN⟩,.int .i64 0]),.det (TXV ⟨false,gr,.slice (some ⟨kbN,0,none⟩) 2 cbN⟩),.det (.int .i64 0),.alloc (TXC ⟨false,false,.slice none 0 0⟩),.store (.new 3) 0 (TXC ⟨false,gr,.slice (some ⟨kbN,0,none⟩) 2 cbN⟩) (TXC ⟨false,gr,.slice (some ⟨kbN,0,none⟩) 2 cbN⟩),.det (.int .i64 0)] (nn 6) [0,1,3,7,15,31] (fun L d=>D d 0 2++([L0.p 0,d 3,L.p 3,.int .i64 0]++D d 6 37)) (fun L=>[(L0.b 0,T2.GC ⟨0,0,false⟩),(kbN,PC ⟨a1,a0⟩),(L.b 3,TXC ⟨false,gr,.slice (some ⟨kbN,0,none⟩) 2 cbN⟩)]) hpN ⟨
  oM,oX,oX,oZ rTX,oT rTX,oA,
  trivial⟩ (fun L2 _ w3 hp3 ha3=>?_)
 refine wpList_nil ?_
 refine k2 _ _ ?_
 refine wp_seq_k (fun K3 k3=>?_)
 refine sgsD [.det (.int .i64 0),.det (.bool false)] [0,1] [0,1] (fun L d=>D d 0 2++([L0.p 0,d 3,L2.p 3]++(D d 5 8++([.bool false]++D d 14 29)))) (fun L=>[(L0.b 0,T2.GC ⟨0,0,false⟩),(kbN,PC ⟨a1,a0⟩),(L2.b 3,TXC ⟨false,gr,.slice (some ⟨kbN,0,none⟩) 2 cbN⟩)]) hp3 ⟨
  oM,oJ .i64 .i64 0 0 (h:=fun w=>(neqI _ _ _ _ w).trans rfl),
  trivial⟩ (fun L3 _ w4 hp4=>?_)
 refine cfk (k3 _ _ ?_)
 refine wp_seq_k (fun K5 k5=>?_)
 refine sgsD [.det (L2.p 3),.det (.bool false)] [0,1] [0,1] (fun L d=>D d 0 2++([L0.p 0,d 3,L2.p 3]++(D d 5 12++([.bool false]++D d 18 25)))) (fun L=>[(L0.b 0,T2.GC ⟨0,0,false⟩),(kbN,PC ⟨a1,a0⟩),(L2.b 3,TXC ⟨false,gr,.slice (some ⟨kbN,0,none⟩) 2 cbN⟩)]) hp4 ⟨
  oF fX0,oL1 2 0 oneB,
  trivial⟩ (fun L4 _ w5 hp5=>?_)
 refine cfk (k5 _ _ ?_)
 refine sdrD [.det (pt (L2.b 3) 2),.det (.slice (some ⟨kbN,0,none⟩) 2 cbN),.det (pt kbN 6),.det (FV a0),.det (pt (L2.b 3) 2),.det (.slice (some ⟨kbN,0,none⟩) 2 cbN),.det (pt kbN 0),.det (FV a1),.det (PV ⟨a0,a1⟩),.det (pt (L2.b 3) 1),.det (.bool gr),.det (.tuple #[T2.GV ⟨0,0,false⟩,.int .i64 e]),.det (.tuple #[T2.GV ⟨0,0,false⟩,.int .i64 e]),.det (T2.GV ⟨0,0,false⟩),.det (.int .i64 e),.alloc (T2.GC ⟨0,0,false⟩),.store (.new 15) 0 (T2.GC ⟨0,0,false⟩) (T2.GC ⟨0,0,false⟩),.det (.int .i64 e)] (nn 18) [0,1,3,7,0,16,48,112,255,0,512,2047,4095,8191,8191,0,49151,131071] (fun L d=>D d 0 2++([L0.p 0]++(D d 3 2++([.int .i64 e]++D d 6 37)))) (fun L=>[(L0.b 0,T2.GC ⟨0,0,false⟩),(kbN,PC ⟨a1,a0⟩),(L2.b 3,TXC ⟨false,gr,.slice (some ⟨kbN,0,none⟩) 2 cbN⟩),(L.b 15,T2.GC ⟨0,0,false⟩)]) hp5 ⟨
  oF fX2,oL1 2 2 oneFS,oIS (b:=kbN) (off:=0) (n:=2) (c:=cbN) (sz:=6) 1 Tryz.underlying83 rF.size (by decide),oL 1 6 rF,oF fX2,oL1 2 2 oneFS,
  oIS (b:=kbN) (off:=0) (n:=2) (c:=cbN) (sz:=6) 0 Tryz.underlying83 rF.size (by decide),oL 1 0 rF,oD (buildP a0 a1),oF fX1,oL1 2 1 oneB,
  oC K.stay hg hP,oM,oX,oX,oZ T2.rG,oT T2.rG,oA,
  trivial⟩ (fun L5 _ w6 hp6=>?_)
 refine wp_seq_k (fun K8 k8=>?_)
 refine sgsD [.det (.int .i64 e),.det (.bool true)] [0,1] [0,1] (fun L d=>D d 0 2++([L0.p 0]++(D d 3 2++([.int .i64 e]++(D d 6 29++([.bool true]++D d 36 7)))))) (fun L=>[(L0.b 0,T2.GC ⟨0,0,false⟩),(kbN,PC ⟨a1,a0⟩),(L2.b 3,TXC ⟨false,gr,.slice (some ⟨kbN,0,none⟩) 2 cbN⟩),(L5.b 15,T2.GC ⟨0,0,false⟩)]) hp6 ⟨
  oM,oJ .i64 .i64 e 0 (h:=fun w=>(neqI _ _ _ _ w).trans (by rw [decide_eq_false he];rfl)),
  trivial⟩ (fun L6 _ w7 hp7=>?_)
 refine cT ?_
 refine sgsD [.det (T2.GV ⟨0,0,false⟩),.det (.int .i64 e),.store (.base 0) 0 (T2.GC ⟨0,0,false⟩) (T2.GC ⟨0,0,false⟩),.det (.int .i64 e)] [0,1,2,3] [0,0,1,7] (fun L d=>D d 0 2++([L0.p 0,.int .i64 e]++D d 4 39)) (fun L=>[(L0.b 0,T2.GC ⟨0,0,false⟩),(kbN,PC ⟨a1,a0⟩),(L2.b 3,TXC ⟨false,gr,.slice (some ⟨kbN,0,none⟩) 2 cbN⟩),(L5.b 15,T2.GC ⟨0,0,false⟩)]) hp7 ⟨
  oD T2.buildGn,oM,oT T2.rG,oA,
  trivial⟩ (fun L7 _ w8 hp8=>?_)
 refine wp_ret ?_
 refine bodyPost_ret (v:=.tuple #[T2.GV ⟨0,0,false⟩,.int .i64 e]) ?_ rfl ?_
 ·exact rct T2.rG rfl (by kernel_rfl) (by kernel_rfl) (hp8.bound 0 rfl).2
 ·exact ⟨rfl,hp8.bel⟩
theorem take2O {G:World→Prop} (K:FpOk G) (p:Option Addr) (n c:Nat) (a0 a1:F) (gr:Bool) (y:F2) (w:World) (hg:G w) (hO:On b2 (.aff ⟨a0,a1⟩ y)) (hR:∀ x,Below w.heap.size w x→Calls Tryz.prog 54 #[.slice p n c,.int .i64 96] x (RetN gr (PC ⟨a1,a0⟩) 2 x)) (hP:∀ x,G x→Calls Tryz.prog 61 #[PV ⟨a0,a1⟩,.bool gr] x (Ret (.tuple #[T2.GV ⟨⟨a0,a1⟩,y,false⟩,.int .i64 0]) x)):Calls Tryz.prog 25 #[.slice p n c] w (Ret (bif decide (mul F2.inv ordR (.aff ⟨a0,a1⟩ y)=.inf) then .tuple #[T2.GV ⟨⟨a0,a1⟩,y,false⟩,.int .i64 0] else T2.tkF 6) w):=by
 have fin0:(decide (mul F2.inv ordR (.aff ⟨a0,a1⟩ y)=.inf))=true→Ending.returned (.tuple #[T2.GV ⟨⟨a0,a1⟩,y,false⟩,.int .i64 0])=Ending.returned (bif decide (mul F2.inv ordR (.aff ⟨a0,a1⟩ y)=.inf) then .tuple #[T2.GV ⟨⟨a0,a1⟩,y,false⟩,.int .i64 0] else T2.tkF 6):=by subst_vars;intro h1q;rw [h1q];rfl
 have fin1:(decide (mul F2.inv ordR (.aff ⟨a0,a1⟩ y)=.inf))=false→Ending.returned (.tuple #[T2.GV ⟨0,0,false⟩,.int .i64 6])=Ending.returned (bif decide (mul F2.inv ordR (.aff ⟨a0,a1⟩ y)=.inf) then .tuple #[T2.GV ⟨⟨a0,a1⟩,y,false⟩,.int .i64 0] else T2.tkF 6):=by subst_vars;intro h1q;rw [h1q];rfl
 have hp0:=Heap.start w
 go_enter Tryz.func25,Tryz.ntmps25
 refine sgsD [.alloc (T2.GC ⟨0,0,false⟩),.det (.int .i64 0)] [0,1] [0,0] (fun L d=>[.slice p n c,d 1,L.p 0]++D d 3 40) (fun L=>[(L.b 0,T2.GC ⟨0,0,false⟩)]) hp0 ⟨
  oZ T2.rG,oA,
  trivial⟩ (fun L0 d0 w1 hp1=>?_)
 refine wp_seq_k (fun K2 k2=>?_)
 refine wp_region_list ?_
 refine gsC 2 [.det (.slice p n c),.any (isN w.heap.size [L0.b 0] gr (PC ⟨a1,a0⟩) 2)] [0,1] [0,1] (fun L d=>D d 0 2++([L0.p 0]++(D d 3 6++([L.v 1]++D d 10 33)))) (fun L=>[(L0.b 0,T2.GC ⟨0,0,false⟩)]) hp1 ⟨
  oM,oY (fun L=>#[.slice p n c,.int .i64 96]) (fun _ _ _ h hb=>h.stay hb) (fun L w hs=>newN hs [L0.b 0] (hR w hs.bel)),
  trivial⟩ (fun L1 d1 w2 hp2 ha2=>?_)
 obtain ⟨kbN,cbN,eN,lbN,qbN,ubN,xbN⟩:=AnyF.at (ha2 (by kernel_rfl)) (j:=1) rfl rfl
 rw [eN]
 have hpN:=Heap.add hp2 qbN ubN xbN
 refine gsC 6 [.det (.tuple #[TXV ⟨false,gr,.slice (some ⟨kbN,0,none⟩) 2 cbN⟩,.int .i64 0]),.det (TXV ⟨false,gr,.slice (some ⟨kbN,0,none⟩) 2 cbN⟩),.det (.int .i64 0),.alloc (TXC ⟨false,false,.slice none 0 0⟩),.store (.new 3) 0 (TXC ⟨false,gr,.slice (some ⟨kbN,0,none⟩) 2 cbN⟩) (TXC ⟨false,gr,.slice (some ⟨kbN,0,none⟩) 2 cbN⟩),.det (.int .i64 0)] (nn 6) [0,1,3,7,15,31] (fun L d=>D d 0 2++([L0.p 0,d 3,L.p 3,.int .i64 0]++D d 6 37)) (fun L=>[(L0.b 0,T2.GC ⟨0,0,false⟩),(kbN,PC ⟨a1,a0⟩),(L.b 3,TXC ⟨false,gr,.slice (some ⟨kbN,0,none⟩) 2 cbN⟩)]) hpN ⟨
  oM,oX,oX,oZ rTX,oT rTX,oA,
  trivial⟩ (fun L2 d2 w3 hp3 ha3=>?_)
 refine wpList_nil ?_
 refine k2 _ _ ?_
 refine wp_seq_k (fun K3 k3=>?_)
 refine sgsD [.det (.int .i64 0),.det (.bool false)] [0,1] [0,1] (fun L d=>D d 0 2++([L0.p 0,d 3,L2.p 3]++(D d 5 8++([.bool false]++D d 14 29)))) (fun L=>[(L0.b 0,T2.GC ⟨0,0,false⟩),(kbN,PC ⟨a1,a0⟩),(L2.b 3,TXC ⟨false,gr,.slice (some ⟨kbN,0,none⟩) 2 cbN⟩)]) hp3 ⟨
  oM,oJ .i64 .i64 0 0 (h:=fun w=>(neqI _ _ _ _ w).trans rfl),
  trivial⟩ (fun L3 d3 w4 hp4=>?_)
 refine cfk (k3 _ _ ?_)
 refine wp_seq_k (fun K5 k5=>?_)
 refine sgsD [.det (L2.p 3),.det (.bool false)] [0,1] [0,1] (fun L d=>D d 0 2++([L0.p 0,d 3,L2.p 3]++(D d 5 12++([.bool false]++D d 18 25)))) (fun L=>[(L0.b 0,T2.GC ⟨0,0,false⟩),(kbN,PC ⟨a1,a0⟩),(L2.b 3,TXC ⟨false,gr,.slice (some ⟨kbN,0,none⟩) 2 cbN⟩)]) hp4 ⟨
  oF fX0,oL1 2 0 oneB,
  trivial⟩ (fun L4 d4 w5 hp5=>?_)
 refine cfk (k5 _ _ ?_)
 refine sdrD [.det (pt (L2.b 3) 2),.det (.slice (some ⟨kbN,0,none⟩) 2 cbN),.det (pt kbN 6),.det (FV a0),.det (pt (L2.b 3) 2),.det (.slice (some ⟨kbN,0,none⟩) 2 cbN),.det (pt kbN 0),.det (FV a1),.det (PV ⟨a0,a1⟩),.det (pt (L2.b 3) 1),.det (.bool gr),.det (.tuple #[T2.GV ⟨⟨a0,a1⟩,y,false⟩,.int .i64 0]),.det (.tuple #[T2.GV ⟨⟨a0,a1⟩,y,false⟩,.int .i64 0]),.det (T2.GV ⟨⟨a0,a1⟩,y,false⟩),.det (.int .i64 0),.alloc (T2.GC ⟨0,0,false⟩),.store (.new 15) 0 (T2.GC ⟨⟨a0,a1⟩,y,false⟩) (T2.GC ⟨⟨a0,a1⟩,y,false⟩),.det (.int .i64 0)] (nn 18) [0,1,3,7,0,16,48,112,255,0,512,2047,4095,8191,8191,0,49151,131071] (fun L d=>D d 0 2++([L0.p 0]++(D d 3 2++([.int .i64 0,L.p 15]++D d 7 36)))) (fun L=>[(L0.b 0,T2.GC ⟨0,0,false⟩),(kbN,PC ⟨a1,a0⟩),(L2.b 3,TXC ⟨false,gr,.slice (some ⟨kbN,0,none⟩) 2 cbN⟩),(L.b 15,T2.GC ⟨⟨a0,a1⟩,y,false⟩)]) hp5 ⟨
  oF fX2,oL1 2 2 oneFS,oIS (b:=kbN) (off:=0) (n:=2) (c:=cbN) (sz:=6) 1 Tryz.underlying83 rF.size (by decide),oL 1 6 rF,oF fX2,oL1 2 2 oneFS,
  oIS (b:=kbN) (off:=0) (n:=2) (c:=cbN) (sz:=6) 0 Tryz.underlying83 rF.size (by decide),oL 1 0 rF,oD (buildP a0 a1),oF fX1,oL1 2 1 oneB,
  oC K.stay hg hP,oM,oX,oX,oZ T2.rG,oT T2.rG,oA,
  trivial⟩ (fun L5 d5 w6 hp6=>?_)
 refine wp_seq_k (fun K8 k8=>?_)
 refine sgsD [.det (.int .i64 0),.det (.bool false)] [0,1] [0,1] (fun L d=>D d 0 2++([L0.p 0]++(D d 3 3++([L5.p 15]++(D d 7 28++([.bool false]++D d 36 7)))))) (fun L=>[(L0.b 0,T2.GC ⟨0,0,false⟩),(kbN,PC ⟨a1,a0⟩),(L2.b 3,TXC ⟨false,gr,.slice (some ⟨kbN,0,none⟩) 2 cbN⟩),(L5.b 15,T2.GC ⟨⟨a0,a1⟩,y,false⟩)]) hp6 ⟨
  oM,oJ .i64 .i64 0 0 (h:=fun w=>(neqI _ _ _ _ w).trans rfl),
  trivial⟩ (fun L6 d6 w7 hp7=>?_)
 refine cfk (k8 _ _ ?_)
 refine wp_seq_k (fun K10 k10=>?_)
 refine sgsD [.det (T2.GV ⟨⟨a0,a1⟩,y,false⟩),.det (.bool (decide (mul F2.inv ordR (.aff ⟨a0,a1⟩ y)=.inf))),.det (.bool (!decide (mul F2.inv ordR (.aff ⟨a0,a1⟩ y)=.inf)))] [0,1,2] [0,1,3] (fun L d=>D d 0 2++([L0.p 0]++(D d 3 3++([L5.p 15]++(D d 7 33++([.bool (!decide (mul F2.inv ordR (.aff ⟨a0,a1⟩ y)=.inf))]++D d 41 2)))))) (fun L=>[(L0.b 0,T2.GC ⟨0,0,false⟩),(kbN,PC ⟨a1,a0⟩),(L2.b 3,TXC ⟨false,gr,.slice (some ⟨kbN,0,none⟩) 2 cbN⟩),(L5.b 15,T2.GC ⟨⟨a0,a1⟩,y,false⟩)]) hp7 ⟨
  oL 3 0 T2.rG,oH (v:=.bool (decide (mul F2.inv ordR (.aff ⟨a0,a1⟩ y)=.inf))) (vs:=#[T2.GV ⟨⟨a0,a1⟩,y,false⟩]) (fun w hb _=>T2.g2In (fpK K) (.aff ⟨a0,a1⟩ y) w (K.stay hg hb) hO),
  oN,
  trivial⟩ (fun L7 d7 w8 hp8=>?_)
 rcases Bool.eq_false_or_eq_true (decide (mul F2.inv ordR (.aff ⟨a0,a1⟩ y)=.inf)) with h1q | h1q
 ·skip
  refine cond_f (nt_t h1q) ?_
  refine skips ?_
  refine k10 _ _ ?_
  refine sgsD [.det (T2.GV ⟨⟨a0,a1⟩,y,false⟩),.store (.base 0) 0 (T2.GC ⟨⟨a0,a1⟩,y,false⟩) (T2.GC ⟨⟨a0,a1⟩,y,false⟩),.det (.int .i64 0)] [0,1,2] [0,1,3] (fun L d=>D d 0 2++([L0.p 0,.int .i64 0]++D d 4 39)) (fun L=>[(L0.b 0,T2.GC ⟨⟨a0,a1⟩,y,false⟩),(kbN,PC ⟨a1,a0⟩),(L2.b 3,TXC ⟨false,gr,.slice (some ⟨kbN,0,none⟩) 2 cbN⟩),(L5.b 15,T2.GC ⟨⟨a0,a1⟩,y,false⟩)]) hp8 ⟨
   oL 3 0 T2.rG,oT T2.rG,oA,
   trivial⟩ (fun L8 d8 w9 hp9=>?_)
  refine wp_ret ?_
  refine bodyPost_ret (v:=.tuple #[T2.GV ⟨⟨a0,a1⟩,y,false⟩,.int .i64 0]) ?_ rfl ?_
  ·exact rct T2.rG rfl (by kernel_rfl) (by kernel_rfl) (hp9.bound 0 rfl).2
  ·exact ⟨fin0 h1q,hp9.bel⟩
 ·skip
  refine cond_t (nt_f h1q) ?_
  refine sgsD [.det (T2.GV ⟨0,0,false⟩),.store (.base 0) 0 (T2.GC ⟨0,0,false⟩) (T2.GC ⟨0,0,false⟩),.det (.int .i64 6)] [0,1,2] [0,1,3] (fun L d=>D d 0 2++([L0.p 0,.int .i64 6]++D d 4 39)) (fun L=>[(L0.b 0,T2.GC ⟨0,0,false⟩),(kbN,PC ⟨a1,a0⟩),(L2.b 3,TXC ⟨false,gr,.slice (some ⟨kbN,0,none⟩) 2 cbN⟩),(L5.b 15,T2.GC ⟨⟨a0,a1⟩,y,false⟩)]) hp8 ⟨
   oD T2.buildGn,oT T2.rG,oA,
   trivial⟩ (fun L8 d8 w9 hp9=>?_)
  refine wp_ret ?_
  refine bodyPost_ret (v:=.tuple #[T2.GV ⟨0,0,false⟩,.int .i64 6]) ?_ rfl ?_
  ·exact rct T2.rG rfl (by kernel_rfl) (by kernel_rfl) (hp9.bound 0 rfl).2
  ·exact ⟨fin1 h1q,hp9.bel⟩
theorem take2_ok {G:World→Prop} (K:FpOk G) (p:Option Addr) (n c:Nat) (a0 a1:F) (gr:Bool) (w:World) (hg:G w) (hH:∀ w,G w→w.rangeAt 2 0 (FC hf)) (hR:∀ x,Below w.heap.size w x→Calls Tryz.prog 54 #[.slice p n c,.int .i64 96] x (RetN gr (PC ⟨a1,a0⟩) 2 x)):Calls Tryz.prog 25 #[.slice p n c] w (Ret (T2.tk2 ⟨a0,a1⟩ gr) w):=by
 have L:=fpK K
 cases hq:F2.is2 ((⟨a0,a1⟩:F2)*⟨a0,a1⟩*⟨a0,a1⟩+b2) with
 | false =>
  have e:T2.tk2 ⟨a0,a1⟩ gr=T2.tkF 5:=by unfold T2.tk2;rw [hq];rfl
  rw [e]
  exact take2P K p n c a0 a1 gr 5 w hg (by decide) hR fun x hx=>place2q L _ _ gr x hx rfl hq hH
 | true =>
  obtain ⟨r,hr⟩:∃ r,r=F2.sq2 ((⟨a0,a1⟩:F2)*⟨a0,a1⟩*⟨a0,a1⟩+b2):=⟨_,rfl⟩
  have h:r*r=((⟨a0,a1⟩:F2)*⟨a0,a1⟩*⟨a0,a1⟩+b2):=by rw [hr];exact sq2_sqP hq
  have hO:On b2 (.aff (⟨a0,a1⟩:F2) r):=h
  have hO':On b2 (.aff (⟨a0,a1⟩:F2) (-r)):=show (-r)*(-r)=_ from by rw [F2.neg_mul_neg'];exact h
  cases gr with
  | false =>
   have e:T2.tk2 ⟨a0,a1⟩ false=(bif decide (mul F2.inv ordR (.aff ⟨a0,a1⟩ r)=.inf) then .tuple #[T2.GV ⟨⟨a0,a1⟩,r,false⟩,.int .i64 0] else T2.tkF 6):=by unfold T2.tk2;rw [hq,← hr,Bool.and_false,cond_true,cond_false,cond_false]
   rw [e]
   exact take2O K p n c a0 a1 false r w hg hO hR fun x hx=>place2f L _ _ false x hx hr.symm hq hH
  | true =>
   by_cases h0:r=0
   ·have e:T2.tk2 ⟨a0,a1⟩ true=T2.tkF 3:=by unfold T2.tk2;rw [hq,← hr,decide_eq_true h0];rfl
    rw [e]
    exact take2P K p n c a0 a1 true 3 w hg (by decide) hR fun x hx=>place2z L _ _ true x hx hr.symm hq h0 hH
   ·have e:T2.tk2 ⟨a0,a1⟩ true=(bif decide (mul F2.inv ordR (.aff ⟨a0,a1⟩ (-r))=.inf) then .tuple #[T2.GV ⟨⟨a0,a1⟩,-r,false⟩,.int .i64 0] else T2.tkF 6):=by unfold T2.tk2;rw [hq,← hr,decide_eq_false h0,Bool.and_true,cond_true,cond_false,cond_true]
    rw [e]
    exact take2O K p n c a0 a1 true (-r) w hg hO' hR fun x hx=>place2n L _ _ true x hx hr.symm hq h0 hH
theorem pointTake2 {G:World→Prop} (K:FpOk G) (p:Option Addr) (n c:Nat) (g:Nat→Int) (w:World) (hg:G w) (l1:n≤c) (l2:c≤9223372036854775807) (hb:AtK .u8 w p n g) (rg:∀ j,j<n→0≤g j∧g j<256) (hH:∀ w,G w→w.rangeAt 2 0 (FC hf)):Calls Tryz.prog 25 #[.slice p n c] w (Ret (T2.tkB g n) w):=by
 unfold T2.tkB
 by_cases h1:n<96
 ·rw [if_pos h1];exact take2E p n c 2 w (by decide) fun x _=>readShort p n c 96 x h1
 rw [if_neg h1]
 by_cases h2:96<n
 ·rw [if_pos h2];exact take2E p n c 8 w (by decide) fun x _=>readLong p n c 96 x h2
 rw [if_neg h2]
 obtain rfl:n=96:=by omega
 obtain ⟨q,off,rfl,-⟩:=id hb (by decide)
 obtain ⟨r0,r1⟩:=rg 0 (by decide)
 by_cases hl:g 0 / 32<4
 ·rw [if_pos hl];exact take2E _ 96 c 3 w (by decide) fun x hx=>readLow 96 q off c g (by decide) (by decide) x (AtK.below hb hx) r0 r1 hl
 rw [if_neg hl]
 by_cases h6:6≤g 0 / 32
 ·rw [if_pos h6]
  have hR:=fun ti e hI x (hx:Below w.heap.size w x)=>readInf_ 96 q off c g ti e (by decide) (by decide) x (AtK.below hb hx) r0 r1 hl h6 hI
  by_cases h7:g 0 / 32=7
  ·rw [show hdz g 96=false by unfold hdz;exact decide_eq_false fun h=>h.2 h7]
   exact take2E _ 96 c 3 w (by decide) (hR false 3 fun k c w hc hq=>readInfG _ 96 k c _ w (and32t r0 r1 h7) hc hq)
  ·rw [show hdz g 96=ntz (su g 0 (g 0%32)) 96 by unfold hdz ntz;rw [decide_eq_decide];exact ⟨fun h=>h.1,fun h=>⟨h,h7⟩⟩]
   cases hz:ntz (su g 0 (g 0%32)) 96 with
   | true=>exact take2I _ 96 c w (hR true 0 fun k c w hc hq=>readInfT _ 96 k c _ w (and32s r0 r1 h6 h7) hc hq hz)
   | false=>exact take2E _ 96 c 3 w (by decide) (hR false 3 fun k c w hc hq=>readInfF _ 96 k c _ w (and32s r0 r1 h6 h7) hc hq hz)
 rw [if_neg h6]
 have rf:=su_rg rg (by decide)
 have hR:=fun hI x (hx:Below w.heap.size w x)=>readBig 96 q off c g false 4 K.stay (by decide) (by decide) x (AtK.below hb hx) r0 r1 hl h6 (K.stay hg hx) hI
 have r1':∀ j,j<48→0≤(su g 0 (g 0%32)) (0+j)∧(su g 0 (g 0%32)) (0+j)<256:=fun j hj=>rf _ (by omega)
 have r2':∀ j,j<48→0≤(su g 0 (g 0%32)) (48+j)∧(su g 0 (g 0%32)) (48+j)<256:=fun j hj=>rf _ (by omega)
 by_cases h1:bv (fun j=>(su g 0 (g 0%32)) (0+j)) 48<RI
 ·rw [if_pos h1]
  by_cases h0:bv (fun j=>(su g 0 (g 0%32)) (48+j)) 48<RI
  ·rw [if_pos h0]
   exact take2_ok K _ 96 c _ _ _ w hg hH fun x hx=>readOk 96 q off c g _ (PC ⟨ofB (fun j=>(su g 0 (g 0%32)) (0+j)),ofB (fun j=>(su g 0 (g 0%32)) (48+j))⟩) 2 K.stay (by decide) (by decide) x (AtK.below hb hx) r0 r1 hl h6 (K.stay hg hx) fun k c w hw hc hm hq=>readPlace2 K _ _ _ k c _ _ _ w hw rfl (and32p r0 r1 hl h6) hc hm hq rf (ofB_val r1' h1) (ofB_val r2' h0)
  ·rw [if_neg h0]
   exact take2E _ 96 c 4 w (by decide) (hR fun k c w hw hc hm hq=>readPlace2b1 K _ _ _ k c _ _ w hw rfl rfl hc hm hq rf (ofB_val r1' h1) (by omega))
 ·rw [if_neg h1]
  exact take2E _ 96 c 4 w (by decide) (hR fun k c w hw hc hm hq=>readPlace2b0 K _ _ _ k c _ w hw rfl rfl hc hm hq rf (by omega))
end Go.Proofs.YtmibajbpimcfnaaGreatDoor.fpn
/- Package point is what is asked. -/
namespace Go.Proofs.YtmibajbpimcfnaaGreatDoor.fpn
open Go.RowKit Pl EC
theorem ptK {G:World→Prop} (K:FpOk G) (hH:∀ w,G w→w.rangeAt 2 0 (FC hf)):PtK G where
 stay:=K.stay
 put1:=fun P w hg=>pointPut1 (fpK K) P w hg
 put2:=fun P w hg=>pointPut2 (fpK K) P w hg
 take1:=fun p n c g w hg l1 l2 hb rg=>pointTake1 K p n c g w hg l1 l2 hb rg
 take2:=fun p n c g w hg l1 l2 hb rg=>pointTake2 K p n c g w hg l1 l2 hb rg hH
theorem ptK2:PtK G2:=ptK (fpOk.over (fun _ h=>h.1) (fun h b=>h.stay b)) G2.half
end Go.Proofs.YtmibajbpimcfnaaGreatDoor.fpn
