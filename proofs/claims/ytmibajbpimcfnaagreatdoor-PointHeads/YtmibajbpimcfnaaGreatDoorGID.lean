/- Texts laid together. -/
import Derived.Test.YtmibajbpimcfnaaGreatDoorGF
set_option linter.unusedVariables false
set_option linter.unusedSimpArgs false
set_option maxRecDepth 4000
set_option maxHeartbeats 4000000
/- Package fp2: the root that is told. -/
namespace Go.Proofs.YtmibajbpimcfnaaGreatDoor.fpn
open Go.RowKit Pl
noncomputable def any2 (x:F2):F2 :=
 if x.c1=0 then (if isq x.c0=true then ⟨root x.c0,0⟩ else ⟨0,root (-x.c0)⟩)
 else if isq x.norm=true then (if isq ((x.c0+root x.norm)*hf)=true then ⟨root ((x.c0+root x.norm)*hf),x.c1*hf*finv (root ((x.c0+root x.norm)*hf))⟩ else ⟨root ((x.c0-root x.norm)*hf),x.c1*hf*finv (root ((x.c0-root x.norm)*hf))⟩) else 0
theorem hf_sum (c:F):c*hf+c*hf=c:=by
 have h:c*hf+c*hf=c*(hf+hf):=by grind
 rw [h,hf_two];grind
theorem mz (z a:F) (hz:z=0):a*z+z*a=z:=by grind
theorem mz' (z a:F) (hz:z=0):z*a+a*z=z:=by grind
theorem fadd_comm (a b:F):a+b=b+a:=by grind
theorem fmul_comm (a b:F):a*b=b*a:=by grind
theorem any2_cross {x:F2} (h1:x.c1≠0) (hq:isq x.norm=true):((x.c0+root x.norm)*hf)≠0∧((x.c0-root x.norm)*hf)≠0∧(isq ((x.c0+root x.norm)*hf)=true→isq ((x.c0-root x.norm)*hf)=false)∧(isq ((x.c0+root x.norm)*hf)=false→isq ((x.c0-root x.norm)*hf)=true)∧(((x.c0+root x.norm)*hf)+((x.c0-root x.norm)*hf)=x.c0)∧(4*(((x.c0+root x.norm)*hf)*((x.c0-root x.norm)*hf))=-(x.c1*x.c1)) :=
 F2.cross h1 (root_sq hq) (hf_sum _) (hf_sum _)
theorem any2_sq {x r:F2} (h:r*r=x):any2 x*any2 x=x:=by
 unfold any2
 by_cases h1:x.c1=0
 ·rw [if_pos h1]
  by_cases hq:isq x.c0=true
  ·rw [if_pos hq]
   have e:=root_sq hq
   refine F2.ext' ?_ ?_
   ·show root x.c0*root x.c0-0*0=x.c0
    rw [e];grind
   ·show root x.c0*0+0*root x.c0=x.c1
    rw [h1];exact mz 0 _ rfl
  ·rw [if_neg hq]
   have e:=root_sq (isq_neg (show isq x.c0=false by simpa using hq))
   refine F2.ext' ?_ ?_
   ·show 0*0-root (-x.c0)*root (-x.c0)=x.c0
    rw [e];grind
   ·show 0*root (-x.c0)+root (-x.c0)*0=x.c1
    rw [h1];exact mz' 0 _ rfl
 ·have hq:=F2.norm_sq h
  obtain ⟨k0,k1,k2,k3,k4,k5⟩:=any2_cross h1 hq
  rw [if_neg h1,if_pos hq]
  by_cases ht:isq ((x.c0+root x.norm)*hf)=true
  ·rw [if_pos ht]
   exact F2.cross_root hf_two k4 k5 (root_sq ht) (finv_mul (root_ne ht k0))
  ·rw [if_neg ht]
   have ht':=k3 (by simpa using ht)
   exact F2.cross_root hf_two ((fadd_comm _ _).trans k4) (by rw [fmul_comm ((x.c0-root x.norm)*hf) ((x.c0+root x.norm)*hf)];exact k5) (root_sq ht') (finv_mul (root_ne ht' k1))
theorem fp2any1 {G:World→Prop} (K:FpK G) (x:F2) (w:World) (hg:G w) (h1:x.c1=0) (hq:isq x.c0=true):Calls Tryz.prog 130 #[PV x] w (Ret (PV (any2 x)) w):=by
 have hp0:=Heap.start w
 go_enter Tryz.func130,Tryz.ntmps130
 refine sgs [.alloc (PC x),.alloc (PC 0)] [0,1] [0,0] (fun L=>[PV x,L.p 0,L.p 1]++U 9) (fun L=>[(L.b 0,PC x),(L.b 1,PC 0)]) hp0 ⟨
  oB,oZ rP,
  trivial⟩ (fun L0 w1 hp1=>?_)
 refine wp_seq_k (fun K2 k2=>?_)
 refine sgsD [.det (pt (L0.b 0) 6),.det (FV x.c1),.det (FV 0),.det (.bool true)] [0,1,2,3] [0,1,0,7] (fun L d=>[d 0,L0.p 0,L0.p 1]++(D d 3 3++([.bool true]++U 5))) (fun L=>[(L0.b 0,PC x),(L0.b 1,PC 0)]) hp1 ⟨
  oI aP,oL 0 6 rF,oD buildF0,oE (a:=x.c1) (b:=0) qF (yes h1),
  trivial⟩ (fun L1 _ w2 hp2=>?_)
 refine cT ?_
 refine sgsD [.det (L0.p 0),.det (FV x.c0),.det (PV ⟨root x.c0,0⟩),.store (.base 1) 0 (PC ⟨root x.c0,0⟩) (PC ⟨root x.c0,0⟩)] [0,1,2,3] [0,1,3,7] (fun L d=>D d 0 2++([L0.p 1]++D d 3 9)) (fun L=>[(L0.b 0,PC x),(L0.b 1,PC ⟨root x.c0,0⟩)]) hp2 ⟨
  oI aP,oL 0 0 rF,oH (v:=PV ⟨root x.c0,0⟩) (vs:=#[FV x.c0]) (fun w hb _=>fp2flat1 K _ w (K.stay hg hb) hq),oT rP,
  trivial⟩ (fun L2 _ w3 hp3=>?_)
 refine wp_ret ?_
 refine bodyPost_ret (v:=PV ⟨root x.c0,0⟩) ?_ rfl ?_
 ·exact rc rP rfl (by kernel_rfl) (hp3.bound 1 rfl).2
 ·exact ⟨congrArg (fun z=>Ending.returned (PV z)) (by unfold any2;rw [if_pos h1,if_pos hq]),hp3.bel⟩
theorem fp2any2 {G:World→Prop} (K:FpK G) (x:F2) (w:World) (hg:G w) (h1:x.c1=0) (hq:isq x.c0=false):Calls Tryz.prog 130 #[PV x] w (Ret (PV (any2 x)) w):=by
 have hp0:=Heap.start w
 go_enter Tryz.func130,Tryz.ntmps130
 refine sgs [.alloc (PC x),.alloc (PC 0)] [0,1] [0,0] (fun L=>[PV x,L.p 0,L.p 1]++U 9) (fun L=>[(L.b 0,PC x),(L.b 1,PC 0)]) hp0 ⟨
  oB,oZ rP,
  trivial⟩ (fun L0 w1 hp1=>?_)
 refine wp_seq_k (fun K2 k2=>?_)
 refine sgsD [.det (pt (L0.b 0) 6),.det (FV x.c1),.det (FV 0),.det (.bool true)] [0,1,2,3] [0,1,0,7] (fun L d=>[d 0,L0.p 0,L0.p 1]++(D d 3 3++([.bool true]++U 5))) (fun L=>[(L0.b 0,PC x),(L0.b 1,PC 0)]) hp1 ⟨
  oI aP,oL 0 6 rF,oD buildF0,oE (a:=x.c1) (b:=0) qF (yes h1),
  trivial⟩ (fun L1 _ w2 hp2=>?_)
 refine cT ?_
 refine sgsD [.det (L0.p 0),.det (FV x.c0),.det (PV ⟨0,root (-x.c0)⟩),.store (.base 1) 0 (PC ⟨0,root (-x.c0)⟩) (PC ⟨0,root (-x.c0)⟩)] [0,1,2,3] [0,1,3,7] (fun L d=>D d 0 2++([L0.p 1]++D d 3 9)) (fun L=>[(L0.b 0,PC x),(L0.b 1,PC ⟨0,root (-x.c0)⟩)]) hp2 ⟨
  oI aP,oL 0 0 rF,oH (v:=PV ⟨0,root (-x.c0)⟩) (vs:=#[FV x.c0]) (fun w hb _=>fp2flat2 K _ w (K.stay hg hb) hq),oT rP,
  trivial⟩ (fun L2 _ w3 hp3=>?_)
 refine wp_ret ?_
 refine bodyPost_ret (v:=PV ⟨0,root (-x.c0)⟩) ?_ rfl ?_
 ·exact rc rP rfl (by kernel_rfl) (hp3.bound 1 rfl).2
 ·exact ⟨congrArg (fun z=>Ending.returned (PV z)) (by unfold any2;rw [if_pos h1,if_neg (by rw [hq];simp)]),hp3.bel⟩
theorem fp2any3 {G:World→Prop} (K:FpK G) (x r:F2) (w:World) (hg:G w) (h1:x.c1≠0) (hr:∀ w,G w→Calls Tryz.prog 145 #[PV x] w (Ret (PV r) w)) (he:r=any2 x):Calls Tryz.prog 130 #[PV x] w (Ret (PV (any2 x)) w):=by
 have hp0:=Heap.start w
 go_enter Tryz.func130,Tryz.ntmps130
 refine sgs [.alloc (PC x),.alloc (PC 0)] [0,1] [0,0] (fun L=>[PV x,L.p 0,L.p 1]++U 9) (fun L=>[(L.b 0,PC x),(L.b 1,PC 0)]) hp0 ⟨
  oB,oZ rP,
  trivial⟩ (fun L0 w1 hp1=>?_)
 refine wp_seq_k (fun K2 k2=>?_)
 refine sgsD [.det (pt (L0.b 0) 6),.det (FV x.c1),.det (FV 0),.det (.bool false)] [0,1,2,3] [0,1,0,7] (fun L d=>[d 0,L0.p 0,L0.p 1]++(D d 3 3++([.bool false]++U 5))) (fun L=>[(L0.b 0,PC x),(L0.b 1,PC 0)]) hp1 ⟨
  oI aP,oL 0 6 rF,oD buildF0,oE (a:=x.c1) (b:=0) qF (nay h1),
  trivial⟩ (fun L1 _ w2 hp2=>?_)
 refine cfk (k2 _ _ ?_)
 refine sgsD [.det (PV x),.det (PV r),.store (.base 1) 0 (PC r) (PC r)] [0,1,2] [0,1,3] (fun L d=>D d 0 2++([L0.p 1]++D d 3 9)) (fun L=>[(L0.b 0,PC x),(L0.b 1,PC r)]) hp2 ⟨
  oL 0 0 rP,oC K.stay hg hr,oT rP,
  trivial⟩ (fun L2 _ w3 hp3=>?_)
 refine wp_ret ?_
 refine bodyPost_ret (v:=PV r) ?_ rfl ?_
 ·exact rc rP rfl (by kernel_rfl) (hp3.bound 1 rfl).2
 ·exact ⟨congrArg (fun z=>Ending.returned (PV z)) he,hp3.bel⟩
theorem fp2anyRoot {G:World→Prop} (K:FpK G) (x:F2) (w:World) (hg:G w) (hH:∀ w,G w→w.rangeAt 2 0 (FC hf)):Calls Tryz.prog 130 #[PV x] w (Ret (PV (any2 x)) w):=by
 by_cases h1:x.c1=0
 ·by_cases hq:isq x.c0=true
  ·exact fp2any1 K x w hg h1 hq
  ·exact fp2any2 K x w hg h1 (by simpa using hq)
 ·by_cases hq:isq x.norm=true
  ·obtain ⟨k0,k1,k2,k3,k4,k5⟩:=any2_cross h1 hq
   by_cases ht:isq ((x.c0+root x.norm)*hf)=true
   ·refine fp2any3 K x _ w hg h1 (fun w hg=>fp2cross1 K x w hg hH hq ht (root_ne ht k0)) ?_
    unfold any2;rw [if_neg h1,if_pos hq,if_pos ht]
   ·have ht':isq ((x.c0+root x.norm)*hf)=false:=by simpa using ht
    refine fp2any3 K x _ w hg h1 (fun w hg=>fp2cross2 K x w hg hH hq ht' (root_ne (k3 ht') k1)) ?_
    unfold any2;rw [if_neg h1,if_pos hq,if_neg ht]
  ·refine fp2any3 K x _ w hg h1 (fun w hg=>fp2cross0 K x w hg (by simpa using hq)) ?_
   unfold any2;rw [if_neg h1,if_neg hq]
theorem fp2sqrt0 {G:World→Prop} (K:FpK G) (x r:F2) (w:World) (hg:G w) (hr:∀ w,G w→Calls Tryz.prog 130 #[PV x] w (Ret (PV r) w)) (hs:r*r≠x):Calls Tryz.prog 97 #[PV x] w (Ret (.tuple #[PV 0,.bool false]) w):=by
 have hp0:=Heap.start w
 go_enter Tryz.func97,Tryz.ntmps97
 refine sgsD [.alloc (PC x),.alloc (PC 0),.det (.bool false)] [0,1,2] [0,0,0] (fun L d=>[d 0,L.p 0,L.p 1]++D d 3 15) (fun L=>[(L.b 0,PC x),(L.b 1,PC 0)]) hp0 ⟨
  oB,oZ rP,oA,
  trivial⟩ (fun L0 _ w1 hp1=>?_)
 refine sgsD [.det (PV x),.det (PV r),.alloc (PC 0),.store (.new 2) 0 (PC r) (PC r)] [0,1,2,3] [0,1,0,7] (fun L d=>[d 0,L0.p 0,L0.p 1,d 3,L.p 2]++D d 5 13) (fun L=>[(L0.b 0,PC x),(L0.b 1,PC 0),(L.b 2,PC r)]) hp1 ⟨
  oL 0 0 rP,oC K.stay hg hr,oZ rP,oT rP,
  trivial⟩ (fun L1 _ w2 hp2=>?_)
 refine wp_seq_k (fun K3 k3=>?_)
 refine sdrD [.det (PV r),.det (PV r),.det (PV (r*r)),.det (PV x),.det (.bool true)] (nn 5) [0,0,3,0,15] (fun L d=>D d 0 2++([L0.p 1]++(D d 3 8++([.bool true]++D d 12 6)))) (fun L=>[(L0.b 0,PC x),(L0.b 1,PC 0),(L1.b 2,PC r)]) hp2 ⟨
  oL 2 0 rP,oL 2 0 rP,oC K.stay hg (fp2Mul K r r),oL 0 0 rP,oU (a:=(r*r)) (b:=x) qP (yes' hs),
  trivial⟩ (fun L2 _ w3 hp3=>?_)
 refine cT ?_
 refine sgsD [.det (PV 0),.store (.base 1) 0 (PC 0) (PC 0),.det (.bool false)] [0,1,2] [0,1,3] (fun L d=>D d 0 2++([L0.p 1,.bool false]++D d 4 14)) (fun L=>[(L0.b 0,PC x),(L0.b 1,PC 0),(L1.b 2,PC r)]) hp3 ⟨
  oD buildP0,oT rP,oA,
  trivial⟩ (fun L3 _ w4 hp4=>?_)
 refine wp_ret ?_
 refine bodyPost_ret (v:=.tuple #[PV 0,.bool false]) ?_ rfl ?_
 ·exact rct rP rfl (by kernel_rfl) (by kernel_rfl) (hp4.bound 1 rfl).2
 ·exact ⟨rfl,hp4.bel⟩
theorem fp2sqrt1 {G:World→Prop} (K:FpK G) (x r:F2) (w:World) (hg:G w) (hr:∀ w,G w→Calls Tryz.prog 130 #[PV x] w (Ret (PV r) w)) (hs:r*r=x) (hG:r.great=true):Calls Tryz.prog 97 #[PV x] w (Ret (.tuple #[PV (-r),.bool true]) w):=by
 have hp0:=Heap.start w
 go_enter Tryz.func97,Tryz.ntmps97
 refine sgsD [.alloc (PC x),.alloc (PC 0),.det (.bool false)] [0,1,2] [0,0,0] (fun L d=>[d 0,L.p 0,L.p 1]++D d 3 15) (fun L=>[(L.b 0,PC x),(L.b 1,PC 0)]) hp0 ⟨
  oB,oZ rP,oA,
  trivial⟩ (fun L0 _ w1 hp1=>?_)
 refine sgsD [.det (PV x),.det (PV r),.alloc (PC 0),.store (.new 2) 0 (PC r) (PC r)] [0,1,2,3] [0,1,0,7] (fun L d=>[d 0,L0.p 0,L0.p 1,d 3,L.p 2]++D d 5 13) (fun L=>[(L0.b 0,PC x),(L0.b 1,PC 0),(L.b 2,PC r)]) hp1 ⟨
  oL 0 0 rP,oC K.stay hg hr,oZ rP,oT rP,
  trivial⟩ (fun L1 _ w2 hp2=>?_)
 refine wp_seq_k (fun K3 k3=>?_)
 refine sdrD [.det (PV r),.det (PV r),.det (PV (r*r)),.det (PV x),.det (.bool false)] (nn 5) [0,0,3,0,15] (fun L d=>D d 0 2++([L0.p 1,d 3,L1.p 2]++(D d 5 6++([.bool false]++D d 12 6)))) (fun L=>[(L0.b 0,PC x),(L0.b 1,PC 0),(L1.b 2,PC r)]) hp2 ⟨
  oL 2 0 rP,oL 2 0 rP,oC K.stay hg (fp2Mul K r r),oL 0 0 rP,oU (a:=(r*r)) (b:=x) qP (nay' hs),
  trivial⟩ (fun L2 _ w3 hp3=>?_)
 refine cfk (k3 _ _ ?_)
 refine wp_seq_k (fun K5 k5=>?_)
 refine sgsD [.det (PV r),.det (.bool true)] [0,1] [0,1] (fun L d=>D d 0 2++([L0.p 1,d 3,L1.p 2]++(D d 5 9++([.bool true]++D d 15 3)))) (fun L=>[(L0.b 0,PC x),(L0.b 1,PC 0),(L1.b 2,PC r)]) hp3 ⟨
  oL 2 0 rP,oH (v:=.bool true) (vs:=#[PV r]) (fun w hb _=>by have h:=fp2Great K r w (K.stay hg hb);rw [hG] at h;exact h),
  trivial⟩ (fun L3 _ w4 hp4=>?_)
 refine cT ?_
 refine sgsD [.det (PV r),.det (PV (-r)),.store (.base 1) 0 (PC (-r)) (PC (-r)),.det (.bool true)] [0,1,2,3] [0,1,3,7] (fun L d=>D d 0 2++([L0.p 1,.bool true]++D d 4 14)) (fun L=>[(L0.b 0,PC x),(L0.b 1,PC (-r)),(L1.b 2,PC r)]) hp4 ⟨
  oL 2 0 rP,oC K.stay hg (fp2Neg K r),oT rP,oA,
  trivial⟩ (fun L4 _ w5 hp5=>?_)
 refine wp_ret ?_
 refine bodyPost_ret (v:=.tuple #[PV (-r),.bool true]) ?_ rfl ?_
 ·exact rct rP rfl (by kernel_rfl) (by kernel_rfl) (hp5.bound 1 rfl).2
 ·exact ⟨rfl,hp5.bel⟩
theorem fp2sqrt2 {G:World→Prop} (K:FpK G) (x r:F2) (w:World) (hg:G w) (hr:∀ w,G w→Calls Tryz.prog 130 #[PV x] w (Ret (PV r) w)) (hs:r*r=x) (hG:r.great=false):Calls Tryz.prog 97 #[PV x] w (Ret (.tuple #[PV r,.bool true]) w):=by
 have hp0:=Heap.start w
 go_enter Tryz.func97,Tryz.ntmps97
 refine sgsD [.alloc (PC x),.alloc (PC 0),.det (.bool false)] [0,1,2] [0,0,0] (fun L d=>[d 0,L.p 0,L.p 1]++D d 3 15) (fun L=>[(L.b 0,PC x),(L.b 1,PC 0)]) hp0 ⟨
  oB,oZ rP,oA,
  trivial⟩ (fun L0 _ w1 hp1=>?_)
 refine sgsD [.det (PV x),.det (PV r),.alloc (PC 0),.store (.new 2) 0 (PC r) (PC r)] [0,1,2,3] [0,1,0,7] (fun L d=>[d 0,L0.p 0,L0.p 1,d 3,L.p 2]++D d 5 13) (fun L=>[(L0.b 0,PC x),(L0.b 1,PC 0),(L.b 2,PC r)]) hp1 ⟨
  oL 0 0 rP,oC K.stay hg hr,oZ rP,oT rP,
  trivial⟩ (fun L1 _ w2 hp2=>?_)
 refine wp_seq_k (fun K3 k3=>?_)
 refine sdrD [.det (PV r),.det (PV r),.det (PV (r*r)),.det (PV x),.det (.bool false)] (nn 5) [0,0,3,0,15] (fun L d=>D d 0 2++([L0.p 1,d 3,L1.p 2]++(D d 5 6++([.bool false]++D d 12 6)))) (fun L=>[(L0.b 0,PC x),(L0.b 1,PC 0),(L1.b 2,PC r)]) hp2 ⟨
  oL 2 0 rP,oL 2 0 rP,oC K.stay hg (fp2Mul K r r),oL 0 0 rP,oU (a:=(r*r)) (b:=x) qP (nay' hs),
  trivial⟩ (fun L2 _ w3 hp3=>?_)
 refine cfk (k3 _ _ ?_)
 refine wp_seq_k (fun K5 k5=>?_)
 refine sgsD [.det (PV r),.det (.bool false)] [0,1] [0,1] (fun L d=>D d 0 2++([L0.p 1,d 3,L1.p 2]++(D d 5 9++([.bool false]++D d 15 3)))) (fun L=>[(L0.b 0,PC x),(L0.b 1,PC 0),(L1.b 2,PC r)]) hp3 ⟨
  oL 2 0 rP,oH (v:=.bool false) (vs:=#[PV r]) (fun w hb _=>by have h:=fp2Great K r w (K.stay hg hb);rw [hG] at h;exact h),
  trivial⟩ (fun L3 _ w4 hp4=>?_)
 refine cfk (k5 _ _ ?_)
 refine sgsD [.det (PV r),.store (.base 1) 0 (PC r) (PC r),.det (.bool true)] [0,1,2] [0,1,3] (fun L d=>D d 0 2++([L0.p 1,.bool true]++D d 4 14)) (fun L=>[(L0.b 0,PC x),(L0.b 1,PC r),(L1.b 2,PC r)]) hp4 ⟨
  oL 2 0 rP,oT rP,oA,
  trivial⟩ (fun L4 _ w5 hp5=>?_)
 refine wp_ret ?_
 refine bodyPost_ret (v:=.tuple #[PV r,.bool true]) ?_ rfl ?_
 ·exact rct rP rfl (by kernel_rfl) (by kernel_rfl) (hp5.bound 1 rfl).2
 ·exact ⟨rfl,hp5.bel⟩
theorem fp2Sqrt {G:World→Prop} (K:FpK G) (x:F2) (w:World) (hg:G w) (hH:∀ w,G w→w.rangeAt 2 0 (FC hf)):Calls Tryz.prog 97 #[PV x] w (Ret (.tuple #[PV x.sq2,.bool x.is2]) w):=by
 have hr:=fun w hg=>fp2anyRoot K x w hg hH
 by_cases hs:any2 x*any2 x=x
 ·rw [F2.is2_of hs]
  cases hG:(any2 x).great with
  | true =>
   have h0:any2 x≠0:=fun e=>by rw [e,F2.great_zero'] at hG;cases hG
   rw [F2.sq2_of (r:=-any2 x) (by rw [F2.neg_mul_neg'];exact hs) (by rw [F2.great_neg' h0,hG];rfl)]
   exact fp2sqrt1 K x _ w hg hr hs hG
  | false =>
   rw [F2.sq2_of hs hG]
   exact fp2sqrt2 K x _ w hg hr hs hG
 ·obtain ⟨e1,e2⟩:=F2.is2_no (a:=x) (fun r hr=>hs (any2_sq hr))
  rw [e1,e2]
  exact fp2sqrt0 K x _ w hg hr hs
end Go.Proofs.YtmibajbpimcfnaaGreatDoor.fpn
