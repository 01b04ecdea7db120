/- Texts laid together. -/
import Derived.Test.YtmibajbpimcfnaaGreatDoorGY
import Derived.Test.YtmibajbpimcfnaaGreatDoorGZ
import Derived.Test.YtmibajbpimcfnaaGreatDoorGX
import Derived.Test.YtmibajbpimcfnaaGreatDoorGS
import Derived.Test.YtmibajbpimcfnaaGreatDoorGT
set_option linter.unusedVariables false
set_option linter.unusedSimpArgs false
set_option maxRecDepth 4000
set_option maxHeartbeats 4000000
/- The reference's Take2. -/
namespace Go.Proofs.YtmibajbpimcfnaaGreatDoor.fpn.T2
open Go.RowKit Pl EC
theorem sq2_sq {a:F2} (h:F2.is2 a=true):F2.sq2 a*F2.sq2 a=a:=by
 by_cases e:∃ r:F2,r*r=a
 ·obtain ⟨r,hr⟩:=e
  cases hg:r.great with
  | false=>rw [F2.sq2_of hr hg];exact hr
  | true =>
   have h0:r≠0:=fun e=>by rw [e,F2.great_zero'] at hg;cases hg
   have h1:-r*-r=a:=by rw [F2.neg_mul_neg'];exact hr
   rw [F2.sq2_of h1 (by rw [F2.great_neg' h0,hg];rfl)];exact h1
 ·rw [(F2.is2_no fun r hr=>e ⟨r,hr⟩).1] at h;cases h
theorem on_rt {a c y:F2} (hc:c=a*a*a+b2) (hq:F2.is2 c=true) (hy:y=F2.sq2 c):y*y=a*a*a+b2:=by rw [hy,← hc];exact sq2_sq hq
theorem on_rn {a c y z:F2} (hc:c=a*a*a+b2) (hq:F2.is2 c=true) (hy:y=F2.sq2 c) (hz:z=-y):z*z=a*a*a+b2:=by
 rw [← on_rt hc hq hy,hz,F2.neg_mul_neg']
theorem ref5Take2ok (R:RefK) (p:Option Addr) (c:Nat) (g f:Nat→Int) (a0 a1:F) (gr:Bool) (w:World) (hb:AtK .u8 w p 96 g) (hH:∀ w,AtK .u8 w p 96 g→Calls Tryz.prog 57 #[.slice p 96 c,.int .i64 96] w (RetT (fun s=>.tuple #[s,.bool false,.bool gr,.int .i64 0]) f 96 w)) (rf:∀ j,j<96→0≤f j∧f j<256) (ha1:bv (fun j=>f (0+j)) 48=(a1.val:Int)) (ha0:bv (fun j=>f (48+j)) 48=(a0.val:Int)):Calls Tryz.prog 26 #[.slice p 96 c] w (Ret (tk2 ⟨a0,a1⟩ gr) w):=by
 obtain ⟨n1,o1⟩:=nm (⟨a0,a1⟩*⟨a0,a1⟩:F2)
 obtain ⟨n2,o2⟩:=nm (n1*⟨a0,a1⟩:F2)
 obtain ⟨n3,o3⟩:=nm (n2+b2:F2)
 obtain ⟨n4,o4⟩:=nm (F2.sq2 n3:F2)
 obtain ⟨n5,o5⟩:=nm (-n4:F2)
 have fin0:(F2.is2 n3)=true→(decide (n4=0))=true→(gr)=true→Ending.returned (.tuple #[GV ⟨0,0,false⟩,.int .i64 3])=Ending.returned (tk2 ⟨a0,a1⟩ gr):=by subst_vars;intro h1q h2q h3q;unfold tk2;rw [h1q,h2q,h3q];rfl
 have fin1:(F2.is2 n3)=true→(decide (n4=0))=true→(gr)=false→(decide (mul F2.inv ordR (.aff ⟨a0,a1⟩ n4)=.inf))=true→Ending.returned (.tuple #[GV ⟨⟨a0,a1⟩,n4,false⟩,.int .i64 0])=Ending.returned (tk2 ⟨a0,a1⟩ gr):=by subst_vars;intro h1q h2q h3q h4q;unfold tk2;rw [h1q,h2q,h3q,h4q];rfl
 have fin2:(F2.is2 n3)=true→(decide (n4=0))=true→(gr)=false→(decide (mul F2.inv ordR (.aff ⟨a0,a1⟩ n4)=.inf))=false→Ending.returned (.tuple #[GV ⟨0,0,false⟩,.int .i64 6])=Ending.returned (tk2 ⟨a0,a1⟩ gr):=by subst_vars;intro h1q h2q h3q h4q;unfold tk2;rw [h1q,h2q,h3q,h4q];rfl
 have fin3:(F2.is2 n3)=true→(decide (n4=0))=false→(gr)=true→(decide (mul F2.inv ordR (.aff ⟨a0,a1⟩ n5)=.inf))=true→Ending.returned (.tuple #[GV ⟨⟨a0,a1⟩,n5,false⟩,.int .i64 0])=Ending.returned (tk2 ⟨a0,a1⟩ gr):=by subst_vars;intro h1q h2q h3q h4q;unfold tk2;rw [h1q,h2q,h3q,h4q];rfl
 have fin4:(F2.is2 n3)=true→(decide (n4=0))=false→(gr)=true→(decide (mul F2.inv ordR (.aff ⟨a0,a1⟩ n5)=.inf))=false→Ending.returned (.tuple #[GV ⟨0,0,false⟩,.int .i64 6])=Ending.returned (tk2 ⟨a0,a1⟩ gr):=by subst_vars;intro h1q h2q h3q h4q;unfold tk2;rw [h1q,h2q,h3q,h4q];rfl
 have fin5:(F2.is2 n3)=true→(decide (n4=0))=false→(gr)=false→(decide (mul F2.inv ordR (.aff ⟨a0,a1⟩ n4)=.inf))=true→Ending.returned (.tuple #[GV ⟨⟨a0,a1⟩,n4,false⟩,.int .i64 0])=Ending.returned (tk2 ⟨a0,a1⟩ gr):=by subst_vars;intro h1q h2q h3q h4q;unfold tk2;rw [h1q,h2q,h3q,h4q];rfl
 have fin6:(F2.is2 n3)=true→(decide (n4=0))=false→(gr)=false→(decide (mul F2.inv ordR (.aff ⟨a0,a1⟩ n4)=.inf))=false→Ending.returned (.tuple #[GV ⟨0,0,false⟩,.int .i64 6])=Ending.returned (tk2 ⟨a0,a1⟩ gr):=by subst_vars;intro h1q h2q h3q h4q;unfold tk2;rw [h1q,h2q,h3q,h4q];rfl
 have fin7:(F2.is2 n3)=false→Ending.returned (.tuple #[GV ⟨0,0,false⟩,.int .i64 5])=Ending.returned (tk2 ⟨a0,a1⟩ gr):=by subst_vars;intro h1q;unfold tk2;rw [h1q];rfl
 have hp0:=Heap.start w
 go_enter Tryz.func26,Tryz.ntmps26
 refine sgsD [.alloc (GC ⟨0,0,false⟩),.det (.int .i64 0)] [0,1] [0,0] (fun L d=>[.slice p 96 c,d 1,L.p 0]++D d 3 80) (fun L=>[(L.b 0,GC ⟨0,0,false⟩)]) hp0 ⟨
  oZ rG,oA,
  trivial⟩ (fun L0 d0 w1 hp1=>?_)
 refine wp_seq_k (fun K2 k2=>?_)
 refine gsA [.det (.slice p 96 c),.any (isT (fun s=>.tuple #[s,.bool false,.bool gr,.int .i64 0]) w.heap.size [L0.b 0] f 96),.detV 1 (fun v=>v),.detV 1 (tupAt 0),.det (.bool false),.det (.bool gr),.det (.int .i64 0),.detV 1 (tupAt 0),.det (.bool false),.det (.bool gr),.det (.int .i64 0)] (Pl.nn 11) [0,1,3,7,7,7,7,15,159,447,1023] (fun L=>[.slice p 96 c,d0 1,L0.p 0,d0 3,tupAt 0 (L.v 1),.bool false,.bool gr,.int .i64 0]++(D d0 8 3++([L.v 1,.slice p 96 c,L.v 1,tupAt 0 (L.v 1),.bool false,.bool gr,.int .i64 0]++D d0 18 65))) (fun L=>[(L0.b 0,GC ⟨0,0,false⟩)]) hp1 ⟨
  oM,oY (fun L=>#[.slice p 96 c,.int .i64 96]) (fun _ _ _ h hb=>h.stay hb) (fun L w hs=>newT hs [L0.b 0] (hH w (AtK.below hb hs.bel))),oMV,oXS 1 (fun _=>rfl),
  oXT 1 (fun _=>rfl),oXT 1 (fun _=>rfl),oXT 1 (fun _=>rfl),oAX,oA,oA,oA,
  trivial⟩ (fun L1 w2 hp2 ha2=>?_)
 obtain ⟨_,eb1b1,kb1b1,cb1b1,rfl,lb1b1,mb1b1,qb1b1,ub1b1,xb1b1⟩:=AnyF.at ha2 (j:=1) rfl rfl
 rw [eb1b1]
 have hp21b1:=Heap.add hp2 qb1b1 ub1b1 xb1b1
 refine k2 _ _ ?_
 refine wp_seq_k (fun K3 k3=>?_)
 refine sgsD [.det (.int .i64 0),.det (.bool false),.det (.bool false),.det (.bool false),.det (.bool false)] (Pl.nn 5) [0,1,3,7,15] (fun L d=>D d 0 2++([L0.p 0,d 3,.slice (some ⟨kb1b1,0,none⟩) 96 cb1b1,d 5,.bool gr]++(D d 7 15++([.bool false]++D d 23 60)))) (fun L=>[(L0.b 0,GC ⟨0,0,false⟩),(kb1b1,BC f 96)]) hp21b1 ⟨
  oM,oJ .i64 .i64 0 0 (h:=fun w=>(neqI _ _ _ _ w).trans rfl),oM,oM,oP,
  trivial⟩ (fun L2 d2 w3 hp3=>?_)
 refine cfk (k3 _ _ ?_)
 refine sgsD [.alloc (GC ⟨0,0,false⟩)] [0] [0] (fun L d=>D d 0 2++([L0.p 0,d 3,.slice (some ⟨kb1b1,0,none⟩) 96 cb1b1,d 5,.bool gr,d 7,L.p 0]++D d 9 74)) (fun L=>[(L0.b 0,GC ⟨0,0,false⟩),(kb1b1,BC f 96),(L.b 0,GC ⟨0,0,false⟩)]) hp3 ⟨
  oZ rG,
  trivial⟩ (fun L3 d3 w4 hp4=>?_)
 refine sgsD [.det (.slice (some ⟨kb1b1,0,none⟩) 96 cb1b1),.det (.slice (some ⟨kb1b1,0,none⟩) 48 cb1b1),.det (.tuple #[FV a1,.int .i64 0]),.det (.tuple #[FV a1,.int .i64 0]),.det (FV a1),.det (.int .i64 0),.det (L3.p 0),.det (pt (L3.b 0) 6),.store (.base 2) 6 (FC a1) (GC ⟨⟨0,a1⟩,0,false⟩),.det (.int .i64 0)] (Pl.nn 10) [0,1,3,7,15,15,0,95,223,511] (fun L d=>D d 0 2++([L0.p 0,d 3,.slice (some ⟨kb1b1,0,none⟩) 96 cb1b1,d 5,.bool gr,.int .i64 0,L3.p 0]++D d 9 74)) (fun L=>[(L0.b 0,GC ⟨0,0,false⟩),(kb1b1,BC f 96),(L3.b 0,GC ⟨⟨0,a1⟩,0,false⟩)]) hp4 ⟨
  oM,oSS (len:=96) (n:=48) Tryz.underlying45 sizeY (by have:=lb1b1;omega),oCS (fun L=>#[.slice (some ⟨kb1b1,0,none⟩) 48 cb1b1]) (fun L w hs=>refTakeF (fun j=>f (0+j)) _ _ w (box_sub 0 48 (seen_at hs (k:=1) rfl) (by decide)) (fun j hj=>rf (0+j) (by omega)) a1 ha1),
  oM,oX,oX,oF fG0,oI aP,oT rF,oA,
  trivial⟩ (fun L4 d4 w5 hp5=>?_)
 refine wp_seq_k (fun K7 k7=>?_)
 refine sgsD [.det (.int .i64 0),.det (.bool true)] [0,1] [0,1] (fun L d=>D d 0 2++([L0.p 0,d 3,.slice (some ⟨kb1b1,0,none⟩) 96 cb1b1,d 5,.bool gr,d 7,L3.p 0]++(D d 9 26++([.bool true]++D d 36 47)))) (fun L=>[(L0.b 0,GC ⟨0,0,false⟩),(kb1b1,BC f 96),(L3.b 0,GC ⟨⟨0,a1⟩,0,false⟩)]) hp5 ⟨
  oM,oJ .i64 .i64 0 0 (h:=fun w=>(eqlI _ _ _ _ w).trans rfl),
  trivial⟩ (fun L5 d5 w6 hp6=>?_)
 refine cT ?_
 refine gsD [.det (.slice (some ⟨kb1b1,0,none⟩) 96 cb1b1),.det (.slice (some ⟨kb1b1,48,none⟩) 48 (cb1b1-48)),.det (.tuple #[FV a0,.int .i64 0]),.det (.tuple #[FV a0,.int .i64 0]),.det (FV a0),.det (.int .i64 0),.det (L3.p 0),.det (L3.p 0),.store (.base 2) 0 (FC a0) (GC ⟨⟨a0,a1⟩,0,false⟩),.det (.int .i64 0)] (Pl.nn 10) [0,1,3,7,15,15,0,95,223,511] (fun L d=>D d 0 2++([L0.p 0]++(D d 3 3++([.bool gr,.int .i64 0,L3.p 0]++D d 9 74)))) (fun L=>[(L0.b 0,GC ⟨0,0,false⟩),(kb1b1,BC f 96),(L3.b 0,GC ⟨⟨a0,a1⟩,0,false⟩)]) hp6 ⟨
  oM,oSG (len:=96) (c:=cb1b1) (n:=48) (by decide) (by have:=lb1b1;omega) lb1b1,oCS (fun L=>#[.slice (some ⟨kb1b1,48,none⟩) 48 (cb1b1-48)]) (fun L w hs=>refTakeF (fun j=>f (48+j)) _ _ w (box_sub 48 48 (seen_at hs (k:=1) rfl) (by decide)) (fun j hj=>rf (48+j) (by omega)) a0 ha0),
  oM,oX,oX,oF fG0,oI aP,oT rF,oA,
  trivial⟩ (fun L6 d6 w7 hp7=>?_)
 refine k7 _ _ ?_
 refine wp_seq_k (fun K9 k9=>?_)
 refine sgsD [.det (.int .i64 0),.det (.bool false)] [0,1] [0,1] (fun L d=>D d 0 2++([L0.p 0]++(D d 3 3++([.bool gr,d 7,L3.p 0]++(D d 9 36++([.bool false]++D d 46 37)))))) (fun L=>[(L0.b 0,GC ⟨0,0,false⟩),(kb1b1,BC f 96),(L3.b 0,GC ⟨⟨a0,a1⟩,0,false⟩)]) hp7 ⟨
  oM,oJ .i64 .i64 0 0 (h:=fun w=>(neqI _ _ _ _ w).trans rfl),
  trivial⟩ (fun L7 d7 w8 hp8=>?_)
 refine cfk (k9 _ _ ?_)
 refine sdrD [.det (L3.p 0),.det (PV ⟨a0,a1⟩),.det (L3.p 0),.det (PV ⟨a0,a1⟩),.det (PV n1),.det (L3.p 0),.det (PV ⟨a0,a1⟩),.det (PV n2),.det (PV b2),.det (PV n3),.det (.tuple #[PV n4,.bool (F2.is2 n3)]),.det (.tuple #[PV n4,.bool (F2.is2 n3)]),.det (PV n4),.det (.bool (F2.is2 n3)),.alloc (PC 0),.store (.new 14) 0 (PC n4) (PC n4),.det (.bool (F2.is2 n3))] (Pl.nn 17) [0,1,0,4,15,0,32,127,255,511,1023,2047,4095,4095,0,24575,65535] (fun L d=>D d 0 2++([L0.p 0]++(D d 3 3++([.bool gr,d 7,L3.p 0,L.p 14,.bool (F2.is2 n3)]++D d 11 72)))) (fun L=>[(L0.b 0,GC ⟨0,0,false⟩),(kb1b1,BC f 96),(L3.b 0,GC ⟨⟨a0,a1⟩,0,false⟩),(L.b 14,PC n4)]) hp8 ⟨
  oF fG0,oL 2 0 rP,oF fG0,oL 2 0 rP,oR (nPR o1 (ref5Mul2 R ⟨a0,a1⟩ ⟨a0,a1⟩)),oF fG0,oL 2 0 rP,oR (nPR o2 (ref5Mul2 R n1 ⟨a0,a1⟩)),oR (ref5b2 R),oR (nPR o3 (ref5Add2 R n2 b2)),
  oR (nUR o4 (ref5Sqrt2 R n3)),oM,oX,oX,oZ rP,oT rP,oA,
  trivial⟩ (fun L8 d8 w9 hp9=>?_)
 refine wp_seq_k (fun K12 k12=>?_)
 refine sgsD [.det (.bool (F2.is2 n3)),.det (.bool (!F2.is2 n3))] [0,1] [0,1] (fun L d=>D d 0 2++([L0.p 0]++(D d 3 3++([.bool gr,d 7,L3.p 0,L8.p 14]++(D d 10 53++([.bool (!F2.is2 n3)]++D d 64 19)))))) (fun L=>[(L0.b 0,GC ⟨0,0,false⟩),(kb1b1,BC f 96),(L3.b 0,GC ⟨⟨a0,a1⟩,0,false⟩),(L8.b 14,PC n4)]) hp9 ⟨
  oM,oN,
  trivial⟩ (fun L9 d9 w10 hp10=>?_)
 rcases Bool.eq_false_or_eq_true (F2.is2 n3) with h1q | h1q
 ·skip
  refine cond_f (nt_t h1q) ?_
  refine skips ?_
  refine k12 _ _ ?_
  refine wp_seq_k (fun K14 k14=>?_)
  refine wp_seq_k (fun K15 k15=>?_)
  rcases Bool.eq_false_or_eq_true (decide (n4=0)) with h2q | h2q
  ·skip
   refine gsD [.det (PV n4),.det (PV 0),.det (.bool true),.det (.bool true),.det (.bool gr),.det (.bool gr)] (Pl.nn 6) [0,0,3,7,15,31] (fun L d=>D d 0 2++([L0.p 0]++(D d 3 3++([.bool gr,d 7,L3.p 0,L8.p 14]++(D d 10 60++([.bool gr]++D d 71 12)))))) (fun L=>[(L0.b 0,GC ⟨0,0,false⟩),(kb1b1,BC f 96),(L3.b 0,GC ⟨⟨a0,a1⟩,0,false⟩),(L8.b 14,PC n4)]) hp10 ⟨
    oL 3 0 rP,oD buildP0,oE (a:=n4) (b:=0) qP (yes (of_decide_eq_true h2q)),oM,oM,oP,
    trivial⟩ (fun L10 d10 w11 hp11=>?_)
   refine k15 _ _ ?_
   rcases Bool.eq_false_or_eq_true (gr) with h3q | h3q
   ·skip
    refine cond_t h3q ?_
    refine sgsD [.det (GV ⟨0,0,false⟩),.store (.base 0) 0 (GC ⟨0,0,false⟩) (GC ⟨0,0,false⟩),.det (.int .i64 3)] [0,1,2] [0,1,3] (fun L d=>D d 0 2++([L0.p 0,.int .i64 3]++D d 4 79)) (fun L=>[(L0.b 0,GC ⟨0,0,false⟩),(kb1b1,BC f 96),(L3.b 0,GC ⟨⟨a0,a1⟩,0,false⟩),(L8.b 14,PC n4)]) hp11 ⟨
     oD buildGn,oT rG,oA,
     trivial⟩ (fun L11 d11 w12 hp12=>?_)
    refine wp_ret ?_
    refine bodyPost_ret (v:=.tuple #[GV ⟨0,0,false⟩,.int .i64 3]) ?_ rfl ?_
    ·exact rct rG rfl (by kernel_rfl) (by kernel_rfl) (hp12.bound 0 rfl).2
    ·exact ⟨fin0 h1q h2q h3q,hp12.bel⟩
   ·skip
    refine cond_f h3q ?_
    refine skips ?_
    refine k14 _ _ ?_
    refine sgsD [.det (PV n4),.det (pt (L3.b 0) 12),.store (.base 2) 12 (PC n4) (GC ⟨⟨a0,a1⟩,n4,false⟩)] [0,1,2] [0,1,3] (fun L d=>D d 0 2++([L0.p 0]++(D d 3 3++([.bool gr,d 7,L3.p 0]++D d 9 74)))) (fun L=>[(L0.b 0,GC ⟨0,0,false⟩),(kb1b1,BC f 96),(L3.b 0,GC ⟨⟨a0,a1⟩,n4,false⟩),(L8.b 14,PC n4)]) hp11 ⟨
     oL 3 0 rP,oF fG1,oT rP,
     trivial⟩ (fun L11 d11 w12 hp12=>?_)
    refine wp_seq_k (fun K17 k17=>?_)
    refine sgsD [.det (.bool false)] [0] [0] (fun L d=>D d 0 2++([L0.p 0]++(D d 3 5++([L3.p 0]++(D d 9 65++([.bool false]++D d 75 8)))))) (fun L=>[(L0.b 0,GC ⟨0,0,false⟩),(kb1b1,BC f 96),(L3.b 0,GC ⟨⟨a0,a1⟩,n4,false⟩),(L8.b 14,PC n4)]) hp12 ⟨
     oMB h3q,
     trivial⟩ (fun L12 d12 w13 hp13=>?_)
    refine cfk (k17 _ _ ?_)
    refine wp_seq_k (fun K19 k19=>?_)
    refine sgsD [.det (GV ⟨⟨a0,a1⟩,n4,false⟩),.det (.bool (decide (mul F2.inv ordR (.aff ⟨a0,a1⟩ n4)=.inf))),.det (.bool (!decide (mul F2.inv ordR (.aff ⟨a0,a1⟩ n4)=.inf)))] [0,1,2] [0,1,3] (fun L d=>D d 0 2++([L0.p 0]++(D d 3 5++([L3.p 0]++(D d 9 71++([.bool (!decide (mul F2.inv ordR (.aff ⟨a0,a1⟩ n4)=.inf))]++D d 81 2)))))) (fun L=>[(L0.b 0,GC ⟨0,0,false⟩),(kb1b1,BC f 96),(L3.b 0,GC ⟨⟨a0,a1⟩,n4,false⟩),(L8.b 14,PC n4)]) hp13 ⟨
     oL 2 0 rG,oH (v:=.bool (decide (mul F2.inv ordR (.aff ⟨a0,a1⟩ n4)=.inf))) (vs:=#[GV ⟨⟨a0,a1⟩,n4,false⟩]) (fun w _ _=>ref5In1 R (.aff ⟨a0,a1⟩ n4) w (on_rt (by rw [o3,o2,o1]) h1q o4)),
     oN,
     trivial⟩ (fun L13 d13 w14 hp14=>?_)
    rcases Bool.eq_false_or_eq_true (decide (mul F2.inv ordR (.aff ⟨a0,a1⟩ n4)=.inf)) with h4q | h4q
    ·skip
     refine cond_f (nt_t h4q) ?_
     refine skips ?_
     refine k19 _ _ ?_
     refine sgsD [.det (GV ⟨⟨a0,a1⟩,n4,false⟩),.store (.base 0) 0 (GC ⟨⟨a0,a1⟩,n4,false⟩) (GC ⟨⟨a0,a1⟩,n4,false⟩),.det (.int .i64 0)] [0,1,2] [0,1,3] (fun L d=>D d 0 2++([L0.p 0,.int .i64 0]++D d 4 79)) (fun L=>[(L0.b 0,GC ⟨⟨a0,a1⟩,n4,false⟩),(kb1b1,BC f 96),(L3.b 0,GC ⟨⟨a0,a1⟩,n4,false⟩),(L8.b 14,PC n4)]) hp14 ⟨
      oL 2 0 rG,oT rG,oA,
      trivial⟩ (fun L14 d14 w15 hp15=>?_)
     refine wp_ret ?_
     refine bodyPost_ret (v:=.tuple #[GV ⟨⟨a0,a1⟩,n4,false⟩,.int .i64 0]) ?_ rfl ?_
     ·exact rct rG rfl (by kernel_rfl) (by kernel_rfl) (hp15.bound 0 rfl).2
     ·exact ⟨fin1 h1q h2q h3q h4q,hp15.bel⟩
    ·skip
     refine cond_t (nt_f h4q) ?_
     refine sgsD [.det (GV ⟨0,0,false⟩),.store (.base 0) 0 (GC ⟨0,0,false⟩) (GC ⟨0,0,false⟩),.det (.int .i64 6)] [0,1,2] [0,1,3] (fun L d=>D d 0 2++([L0.p 0,.int .i64 6]++D d 4 79)) (fun L=>[(L0.b 0,GC ⟨0,0,false⟩),(kb1b1,BC f 96),(L3.b 0,GC ⟨⟨a0,a1⟩,n4,false⟩),(L8.b 14,PC n4)]) hp14 ⟨
      oD buildGn,oT rG,oA,
      trivial⟩ (fun L14 d14 w15 hp15=>?_)
     refine wp_ret ?_
     refine bodyPost_ret (v:=.tuple #[GV ⟨0,0,false⟩,.int .i64 6]) ?_ rfl ?_
     ·exact rct rG rfl (by kernel_rfl) (by kernel_rfl) (hp15.bound 0 rfl).2
     ·exact ⟨fin2 h1q h2q h3q h4q,hp15.bel⟩
  ·skip
   refine gsD [.det (PV n4),.det (PV 0),.det (.bool false),.det (.bool false),.det undef,.det (.bool false)] (Pl.nn 6) [0,0,3,7,15,31] (fun L d=>D d 0 2++([L0.p 0]++(D d 3 3++([.bool gr,d 7,L3.p 0,L8.p 14]++(D d 10 60++([.bool false]++D d 71 12)))))) (fun L=>[(L0.b 0,GC ⟨0,0,false⟩),(kb1b1,BC f 96),(L3.b 0,GC ⟨⟨a0,a1⟩,0,false⟩),(L8.b 14,PC n4)]) hp10 ⟨
    oL 3 0 rP,oD buildP0,oE (a:=n4) (b:=0) qP (nay (of_decide_eq_false h2q)),oM,oS,oP,
    trivial⟩ (fun L10 d10 w11 hp11=>?_)
   refine k15 _ _ ?_
   refine cfk (k14 _ _ ?_)
   refine sgsD [.det (PV n4),.det (pt (L3.b 0) 12),.store (.base 2) 12 (PC n4) (GC ⟨⟨a0,a1⟩,n4,false⟩)] [0,1,2] [0,1,3] (fun L d=>D d 0 2++([L0.p 0]++(D d 3 3++([.bool gr,d 7,L3.p 0,L8.p 14]++D d 10 73)))) (fun L=>[(L0.b 0,GC ⟨0,0,false⟩),(kb1b1,BC f 96),(L3.b 0,GC ⟨⟨a0,a1⟩,n4,false⟩),(L8.b 14,PC n4)]) hp11 ⟨
    oL 3 0 rP,oF fG1,oT rP,
    trivial⟩ (fun L11 d11 w12 hp12=>?_)
   refine wp_seq_k (fun K17 k17=>?_)
   refine sgsD [.det (.bool gr)] [0] [0] (fun L d=>D d 0 2++([L0.p 0]++(D d 3 5++([L3.p 0,L8.p 14]++(D d 10 64++([.bool gr]++D d 75 8)))))) (fun L=>[(L0.b 0,GC ⟨0,0,false⟩),(kb1b1,BC f 96),(L3.b 0,GC ⟨⟨a0,a1⟩,n4,false⟩),(L8.b 14,PC n4)]) hp12 ⟨
    oM,
    trivial⟩ (fun L12 d12 w13 hp13=>?_)
   rcases Bool.eq_false_or_eq_true (gr) with h3q | h3q
   ·skip
    refine cond_t h3q ?_
    refine gsD [.det (PV n4),.det (PV n5),.det (pt (L3.b 0) 12),.store (.base 2) 12 (PC n5) (GC ⟨⟨a0,a1⟩,n5,false⟩)] [0,1,2,3] [0,1,3,7] (fun L d=>D d 0 2++([L0.p 0]++(D d 3 5++([L3.p 0]++D d 9 74)))) (fun L=>[(L0.b 0,GC ⟨0,0,false⟩),(kb1b1,BC f 96),(L3.b 0,GC ⟨⟨a0,a1⟩,n5,false⟩),(L8.b 14,PC n4)]) hp13 ⟨
     oL 3 0 rP,oR (nPR o5 (ref5Neg2 R n4)),oF fG1,oT rP,
     trivial⟩ (fun L13 d13 w14 hp14=>?_)
    refine k17 _ _ ?_
    refine wp_seq_k (fun K19 k19=>?_)
    refine sgsD [.det (GV ⟨⟨a0,a1⟩,n5,false⟩),.det (.bool (decide (mul F2.inv ordR (.aff ⟨a0,a1⟩ n5)=.inf))),.det (.bool (!decide (mul F2.inv ordR (.aff ⟨a0,a1⟩ n5)=.inf)))] [0,1,2] [0,1,3] (fun L d=>D d 0 2++([L0.p 0]++(D d 3 5++([L3.p 0]++(D d 9 71++([.bool (!decide (mul F2.inv ordR (.aff ⟨a0,a1⟩ n5)=.inf))]++D d 81 2)))))) (fun L=>[(L0.b 0,GC ⟨0,0,false⟩),(kb1b1,BC f 96),(L3.b 0,GC ⟨⟨a0,a1⟩,n5,false⟩),(L8.b 14,PC n4)]) hp14 ⟨
     oL 2 0 rG,oH (v:=.bool (decide (mul F2.inv ordR (.aff ⟨a0,a1⟩ n5)=.inf))) (vs:=#[GV ⟨⟨a0,a1⟩,n5,false⟩]) (fun w _ _=>ref5In1 R (.aff ⟨a0,a1⟩ n5) w (on_rn (by rw [o3,o2,o1]) h1q o4 o5)),
     oN,
     trivial⟩ (fun L14 d14 w15 hp15=>?_)
    rcases Bool.eq_false_or_eq_true (decide (mul F2.inv ordR (.aff ⟨a0,a1⟩ n5)=.inf)) with h4q | h4q
    ·skip
     refine cond_f (nt_t h4q) ?_
     refine skips ?_
     refine k19 _ _ ?_
     refine sgsD [.det (GV ⟨⟨a0,a1⟩,n5,false⟩),.store (.base 0) 0 (GC ⟨⟨a0,a1⟩,n5,false⟩) (GC ⟨⟨a0,a1⟩,n5,false⟩),.det (.int .i64 0)] [0,1,2] [0,1,3] (fun L d=>D d 0 2++([L0.p 0,.int .i64 0]++D d 4 79)) (fun L=>[(L0.b 0,GC ⟨⟨a0,a1⟩,n5,false⟩),(kb1b1,BC f 96),(L3.b 0,GC ⟨⟨a0,a1⟩,n5,false⟩),(L8.b 14,PC n4)]) hp15 ⟨
      oL 2 0 rG,oT rG,oA,
      trivial⟩ (fun L15 d15 w16 hp16=>?_)
     refine wp_ret ?_
     refine bodyPost_ret (v:=.tuple #[GV ⟨⟨a0,a1⟩,n5,false⟩,.int .i64 0]) ?_ rfl ?_
     ·exact rct rG rfl (by kernel_rfl) (by kernel_rfl) (hp16.bound 0 rfl).2
     ·exact ⟨fin3 h1q h2q h3q h4q,hp16.bel⟩
    ·skip
     refine cond_t (nt_f h4q) ?_
     refine sgsD [.det (GV ⟨0,0,false⟩),.store (.base 0) 0 (GC ⟨0,0,false⟩) (GC ⟨0,0,false⟩),.det (.int .i64 6)] [0,1,2] [0,1,3] (fun L d=>D d 0 2++([L0.p 0,.int .i64 6]++D d 4 79)) (fun L=>[(L0.b 0,GC ⟨0,0,false⟩),(kb1b1,BC f 96),(L3.b 0,GC ⟨⟨a0,a1⟩,n5,false⟩),(L8.b 14,PC n4)]) hp15 ⟨
      oD buildGn,oT rG,oA,
      trivial⟩ (fun L15 d15 w16 hp16=>?_)
     refine wp_ret ?_
     refine bodyPost_ret (v:=.tuple #[GV ⟨0,0,false⟩,.int .i64 6]) ?_ rfl ?_
     ·exact rct rG rfl (by kernel_rfl) (by kernel_rfl) (hp16.bound 0 rfl).2
     ·exact ⟨fin4 h1q h2q h3q h4q,hp16.bel⟩
   ·skip
    refine cond_f h3q ?_
    refine skips ?_
    refine k17 _ _ ?_
    refine wp_seq_k (fun K19 k19=>?_)
    refine sgsD [.det (GV ⟨⟨a0,a1⟩,n4,false⟩),.det (.bool (decide (mul F2.inv ordR (.aff ⟨a0,a1⟩ n4)=.inf))),.det (.bool (!decide (mul F2.inv ordR (.aff ⟨a0,a1⟩ n4)=.inf)))] [0,1,2] [0,1,3] (fun L d=>D d 0 2++([L0.p 0]++(D d 3 5++([L3.p 0]++(D d 9 71++([.bool (!decide (mul F2.inv ordR (.aff ⟨a0,a1⟩ n4)=.inf))]++D d 81 2)))))) (fun L=>[(L0.b 0,GC ⟨0,0,false⟩),(kb1b1,BC f 96),(L3.b 0,GC ⟨⟨a0,a1⟩,n4,false⟩),(L8.b 14,PC n4)]) hp13 ⟨
     oL 2 0 rG,oH (v:=.bool (decide (mul F2.inv ordR (.aff ⟨a0,a1⟩ n4)=.inf))) (vs:=#[GV ⟨⟨a0,a1⟩,n4,false⟩]) (fun w _ _=>ref5In1 R (.aff ⟨a0,a1⟩ n4) w (on_rt (by rw [o3,o2,o1]) h1q o4)),
     oN,
     trivial⟩ (fun L13 d13 w14 hp14=>?_)
    rcases Bool.eq_false_or_eq_true (decide (mul F2.inv ordR (.aff ⟨a0,a1⟩ n4)=.inf)) with h4q | h4q
    ·skip
     refine cond_f (nt_t h4q) ?_
     refine skips ?_
     refine k19 _ _ ?_
     refine sgsD [.det (GV ⟨⟨a0,a1⟩,n4,false⟩),.store (.base 0) 0 (GC ⟨⟨a0,a1⟩,n4,false⟩) (GC ⟨⟨a0,a1⟩,n4,false⟩),.det (.int .i64 0)] [0,1,2] [0,1,3] (fun L d=>D d 0 2++([L0.p 0,.int .i64 0]++D d 4 79)) (fun L=>[(L0.b 0,GC ⟨⟨a0,a1⟩,n4,false⟩),(kb1b1,BC f 96),(L3.b 0,GC ⟨⟨a0,a1⟩,n4,false⟩),(L8.b 14,PC n4)]) hp14 ⟨
      oL 2 0 rG,oT rG,oA,
      trivial⟩ (fun L14 d14 w15 hp15=>?_)
     refine wp_ret ?_
     refine bodyPost_ret (v:=.tuple #[GV ⟨⟨a0,a1⟩,n4,false⟩,.int .i64 0]) ?_ rfl ?_
     ·exact rct rG rfl (by kernel_rfl) (by kernel_rfl) (hp15.bound 0 rfl).2
     ·exact ⟨fin5 h1q h2q h3q h4q,hp15.bel⟩
    ·skip
     refine cond_t (nt_f h4q) ?_
     refine sgsD [.det (GV ⟨0,0,false⟩),.store (.base 0) 0 (GC ⟨0,0,false⟩) (GC ⟨0,0,false⟩),.det (.int .i64 6)] [0,1,2] [0,1,3] (fun L d=>D d 0 2++([L0.p 0,.int .i64 6]++D d 4 79)) (fun L=>[(L0.b 0,GC ⟨0,0,false⟩),(kb1b1,BC f 96),(L3.b 0,GC ⟨⟨a0,a1⟩,n4,false⟩),(L8.b 14,PC n4)]) hp14 ⟨
      oD buildGn,oT rG,oA,
      trivial⟩ (fun L14 d14 w15 hp15=>?_)
     refine wp_ret ?_
     refine bodyPost_ret (v:=.tuple #[GV ⟨0,0,false⟩,.int .i64 6]) ?_ rfl ?_
     ·exact rct rG rfl (by kernel_rfl) (by kernel_rfl) (hp15.bound 0 rfl).2
     ·exact ⟨fin6 h1q h2q h3q h4q,hp15.bel⟩
 ·skip
  refine cond_t (nt_f h1q) ?_
  refine sgsD [.det (GV ⟨0,0,false⟩),.store (.base 0) 0 (GC ⟨0,0,false⟩) (GC ⟨0,0,false⟩),.det (.int .i64 5)] [0,1,2] [0,1,3] (fun L d=>D d 0 2++([L0.p 0,.int .i64 5]++D d 4 79)) (fun L=>[(L0.b 0,GC ⟨0,0,false⟩),(kb1b1,BC f 96),(L3.b 0,GC ⟨⟨a0,a1⟩,0,false⟩),(L8.b 14,PC n4)]) hp10 ⟨
   oD buildGn,oT rG,oA,
   trivial⟩ (fun L10 d10 w11 hp11=>?_)
  refine wp_ret ?_
  refine bodyPost_ret (v:=.tuple #[GV ⟨0,0,false⟩,.int .i64 5]) ?_ rfl ?_
  ·exact rct rG rfl (by kernel_rfl) (by kernel_rfl) (hp11.bound 0 rfl).2
  ·exact ⟨fin7 h1q,hp11.bel⟩
theorem ref5Take2b1 (R:RefK) (p:Option Addr) (c:Nat) (g f:Nat→Int) (gr:Bool) (w:World) (hb:AtK .u8 w p 96 g) (hH:∀ w,AtK .u8 w p 96 g→Calls Tryz.prog 57 #[.slice p 96 c,.int .i64 96] w (RetT (fun s=>.tuple #[s,.bool false,.bool gr,.int .i64 0]) f 96 w)) (rf:∀ j,j<96→0≤f j∧f j<256) (ha1:RI≤bv (fun j=>f (0+j)) 48):Calls Tryz.prog 26 #[.slice p 96 c] w (Ret (tkF 4) w):=by
 have fin0:Ending.returned (.tuple #[GV ⟨0,0,false⟩,.int .i64 4])=Ending.returned (tkF 4):=by subst_vars;rfl
 have hp0:=Heap.start w
 go_enter Tryz.func26,Tryz.ntmps26
 refine sgsD [.alloc (GC ⟨0,0,false⟩),.det (.int .i64 0)] [0,1] [0,0] (fun L d=>[.slice p 96 c,d 1,L.p 0]++D d 3 80) (fun L=>[(L.b 0,GC ⟨0,0,false⟩)]) hp0 ⟨
  oZ rG,oA,
  trivial⟩ (fun L0 d0 w1 hp1=>?_)
 refine wp_seq_k (fun K2 k2=>?_)
 refine gsA [.det (.slice p 96 c),.any (isT (fun s=>.tuple #[s,.bool false,.bool gr,.int .i64 0]) w.heap.size [L0.b 0] f 96),.detV 1 (fun v=>v),.detV 1 (tupAt 0),.det (.bool false),.det (.bool gr),.det (.int .i64 0),.detV 1 (tupAt 0),.det (.bool false),.det (.bool gr),.det (.int .i64 0)] (Pl.nn 11) [0,1,3,7,7,7,7,15,159,447,1023] (fun L=>[.slice p 96 c,d0 1,L0.p 0,d0 3,tupAt 0 (L.v 1),.bool false,.bool gr,.int .i64 0]++(D d0 8 3++([L.v 1,.slice p 96 c,L.v 1,tupAt 0 (L.v 1),.bool false,.bool gr,.int .i64 0]++D d0 18 65))) (fun L=>[(L0.b 0,GC ⟨0,0,false⟩)]) hp1 ⟨
  oM,oY (fun L=>#[.slice p 96 c,.int .i64 96]) (fun _ _ _ h hb=>h.stay hb) (fun L w hs=>newT hs [L0.b 0] (hH w (AtK.below hb hs.bel))),oMV,oXS 1 (fun _=>rfl),
  oXT 1 (fun _=>rfl),oXT 1 (fun _=>rfl),oXT 1 (fun _=>rfl),oAX,oA,oA,oA,
  trivial⟩ (fun L1 w2 hp2 ha2=>?_)
 obtain ⟨_,eb1b1,kb1b1,cb1b1,rfl,lb1b1,mb1b1,qb1b1,ub1b1,xb1b1⟩:=AnyF.at ha2 (j:=1) rfl rfl
 rw [eb1b1]
 have hp21b1:=Heap.add hp2 qb1b1 ub1b1 xb1b1
 refine k2 _ _ ?_
 refine wp_seq_k (fun K3 k3=>?_)
 refine sgsD [.det (.int .i64 0),.det (.bool false),.det (.bool false),.det (.bool false),.det (.bool false)] (Pl.nn 5) [0,1,3,7,15] (fun L d=>D d 0 2++([L0.p 0,d 3,.slice (some ⟨kb1b1,0,none⟩) 96 cb1b1]++(D d 5 17++([.bool false]++D d 23 60)))) (fun L=>[(L0.b 0,GC ⟨0,0,false⟩),(kb1b1,BC f 96)]) hp21b1 ⟨
  oM,oJ .i64 .i64 0 0 (h:=fun w=>(neqI _ _ _ _ w).trans rfl),oM,oM,oP,
  trivial⟩ (fun L2 d2 w3 hp3=>?_)
 refine cfk (k3 _ _ ?_)
 refine sgsD [.alloc (GC ⟨0,0,false⟩)] [0] [0] (fun L d=>D d 0 2++([L0.p 0,d 3,.slice (some ⟨kb1b1,0,none⟩) 96 cb1b1]++(D d 5 3++([L.p 0]++D d 9 74)))) (fun L=>[(L0.b 0,GC ⟨0,0,false⟩),(kb1b1,BC f 96),(L.b 0,GC ⟨0,0,false⟩)]) hp3 ⟨
  oZ rG,
  trivial⟩ (fun L3 d3 w4 hp4=>?_)
 refine sgsD [.det (.slice (some ⟨kb1b1,0,none⟩) 96 cb1b1),.det (.slice (some ⟨kb1b1,0,none⟩) 48 cb1b1),.det (.tuple #[FV 0,.int .i64 4]),.det (.tuple #[FV 0,.int .i64 4]),.det (FV 0),.det (.int .i64 4),.det (L3.p 0),.det (pt (L3.b 0) 6),.store (.base 2) 6 (FC 0) (GC ⟨⟨0,0⟩,0,false⟩),.det (.int .i64 4)] (Pl.nn 10) [0,1,3,7,15,15,0,95,223,511] (fun L d=>D d 0 2++([L0.p 0]++(D d 3 4++([.int .i64 4]++D d 8 75)))) (fun L=>[(L0.b 0,GC ⟨0,0,false⟩),(kb1b1,BC f 96),(L3.b 0,GC ⟨⟨0,0⟩,0,false⟩)]) hp4 ⟨
  oM,oSS (len:=96) (n:=48) Tryz.underlying45 sizeY (by have:=lb1b1;omega),oCS (fun L=>#[.slice (some ⟨kb1b1,0,none⟩) 48 cb1b1]) (fun L w hs=>refTakeBig (fun j=>f (0+j)) _ _ w (box_sub 0 48 (seen_at hs (k:=1) rfl) (by decide)) (fun j hj=>rf (0+j) (by omega)) ha1),
  oM,oX,oX,oF fG0,oI aP,oT rF,oA,
  trivial⟩ (fun L4 d4 w5 hp5=>?_)
 refine wp_seq_k (fun K7 k7=>?_)
 refine sgsD [.det (.int .i64 4),.det (.bool false)] [0,1] [0,1] (fun L d=>D d 0 2++([L0.p 0]++(D d 3 4++([.int .i64 4]++(D d 8 27++([.bool false]++D d 36 47)))))) (fun L=>[(L0.b 0,GC ⟨0,0,false⟩),(kb1b1,BC f 96),(L3.b 0,GC ⟨⟨0,0⟩,0,false⟩)]) hp5 ⟨
  oM,oJ .i64 .i64 4 0 (h:=fun w=>(eqlI _ _ _ _ w).trans rfl),
  trivial⟩ (fun L5 d5 w6 hp6=>?_)
 refine cfk (k7 _ _ ?_)
 refine wp_seq_k (fun K9 k9=>?_)
 refine sgsD [.det (.int .i64 4),.det (.bool true)] [0,1] [0,1] (fun L d=>D d 0 2++([L0.p 0]++(D d 3 4++([.int .i64 4]++(D d 8 37++([.bool true]++D d 46 37)))))) (fun L=>[(L0.b 0,GC ⟨0,0,false⟩),(kb1b1,BC f 96),(L3.b 0,GC ⟨⟨0,0⟩,0,false⟩)]) hp6 ⟨
  oM,oJ .i64 .i64 4 0 (h:=fun w=>(neqI _ _ _ _ w).trans rfl),
  trivial⟩ (fun L6 d6 w7 hp7=>?_)
 refine cT ?_
 refine sgsD [.det (GV ⟨0,0,false⟩),.det (.int .i64 4),.store (.base 0) 0 (GC ⟨0,0,false⟩) (GC ⟨0,0,false⟩),.det (.int .i64 4)] [0,1,2,3] [0,0,1,7] (fun L d=>D d 0 2++([L0.p 0,.int .i64 4]++D d 4 79)) (fun L=>[(L0.b 0,GC ⟨0,0,false⟩),(kb1b1,BC f 96),(L3.b 0,GC ⟨⟨0,0⟩,0,false⟩)]) hp7 ⟨
  oD buildGn,oM,oT rG,oA,
  trivial⟩ (fun L7 d7 w8 hp8=>?_)
 refine wp_ret ?_
 refine bodyPost_ret (v:=.tuple #[GV ⟨0,0,false⟩,.int .i64 4]) ?_ rfl ?_
 ·exact rct rG rfl (by kernel_rfl) (by kernel_rfl) (hp8.bound 0 rfl).2
 ·exact ⟨fin0 ,hp8.bel⟩
theorem ref5Take2b0 (R:RefK) (p:Option Addr) (c:Nat) (g f:Nat→Int) (a1:F) (gr:Bool) (w:World) (hb:AtK .u8 w p 96 g) (hH:∀ w,AtK .u8 w p 96 g→Calls Tryz.prog 57 #[.slice p 96 c,.int .i64 96] w (RetT (fun s=>.tuple #[s,.bool false,.bool gr,.int .i64 0]) f 96 w)) (rf:∀ j,j<96→0≤f j∧f j<256) (ha1:bv (fun j=>f (0+j)) 48=(a1.val:Int)) (ha0:RI≤bv (fun j=>f (48+j)) 48):Calls Tryz.prog 26 #[.slice p 96 c] w (Ret (tkF 4) w):=by
 have fin0:Ending.returned (.tuple #[GV ⟨0,0,false⟩,.int .i64 4])=Ending.returned (tkF 4):=by subst_vars;rfl
 have hp0:=Heap.start w
 go_enter Tryz.func26,Tryz.ntmps26
 refine sgsD [.alloc (GC ⟨0,0,false⟩),.det (.int .i64 0)] [0,1] [0,0] (fun L d=>[.slice p 96 c,d 1,L.p 0]++D d 3 80) (fun L=>[(L.b 0,GC ⟨0,0,false⟩)]) hp0 ⟨
  oZ rG,oA,
  trivial⟩ (fun L0 d0 w1 hp1=>?_)
 refine wp_seq_k (fun K2 k2=>?_)
 refine gsA [.det (.slice p 96 c),.any (isT (fun s=>.tuple #[s,.bool false,.bool gr,.int .i64 0]) w.heap.size [L0.b 0] f 96),.detV 1 (fun v=>v),.detV 1 (tupAt 0),.det (.bool false),.det (.bool gr),.det (.int .i64 0),.detV 1 (tupAt 0),.det (.bool false),.det (.bool gr),.det (.int .i64 0)] (Pl.nn 11) [0,1,3,7,7,7,7,15,159,447,1023] (fun L=>[.slice p 96 c,d0 1,L0.p 0,d0 3,tupAt 0 (L.v 1),.bool false,.bool gr,.int .i64 0]++(D d0 8 3++([L.v 1,.slice p 96 c,L.v 1,tupAt 0 (L.v 1),.bool false,.bool gr,.int .i64 0]++D d0 18 65))) (fun L=>[(L0.b 0,GC ⟨0,0,false⟩)]) hp1 ⟨
  oM,oY (fun L=>#[.slice p 96 c,.int .i64 96]) (fun _ _ _ h hb=>h.stay hb) (fun L w hs=>newT hs [L0.b 0] (hH w (AtK.below hb hs.bel))),oMV,oXS 1 (fun _=>rfl),
  oXT 1 (fun _=>rfl),oXT 1 (fun _=>rfl),oXT 1 (fun _=>rfl),oAX,oA,oA,oA,
  trivial⟩ (fun L1 w2 hp2 ha2=>?_)
 obtain ⟨_,eb1b1,kb1b1,cb1b1,rfl,lb1b1,mb1b1,qb1b1,ub1b1,xb1b1⟩:=AnyF.at ha2 (j:=1) rfl rfl
 rw [eb1b1]
 have hp21b1:=Heap.add hp2 qb1b1 ub1b1 xb1b1
 refine k2 _ _ ?_
 refine wp_seq_k (fun K3 k3=>?_)
 refine sgsD [.det (.int .i64 0),.det (.bool false),.det (.bool false),.det (.bool false),.det (.bool false)] (Pl.nn 5) [0,1,3,7,15] (fun L d=>D d 0 2++([L0.p 0,d 3,.slice (some ⟨kb1b1,0,none⟩) 96 cb1b1]++(D d 5 17++([.bool false]++D d 23 60)))) (fun L=>[(L0.b 0,GC ⟨0,0,false⟩),(kb1b1,BC f 96)]) hp21b1 ⟨
  oM,oJ .i64 .i64 0 0 (h:=fun w=>(neqI _ _ _ _ w).trans rfl),oM,oM,oP,
  trivial⟩ (fun L2 d2 w3 hp3=>?_)
 refine cfk (k3 _ _ ?_)
 refine sgsD [.alloc (GC ⟨0,0,false⟩)] [0] [0] (fun L d=>D d 0 2++([L0.p 0,d 3,.slice (some ⟨kb1b1,0,none⟩) 96 cb1b1]++(D d 5 3++([L.p 0]++D d 9 74)))) (fun L=>[(L0.b 0,GC ⟨0,0,false⟩),(kb1b1,BC f 96),(L.b 0,GC ⟨0,0,false⟩)]) hp3 ⟨
  oZ rG,
  trivial⟩ (fun L3 d3 w4 hp4=>?_)
 refine sgsD [.det (.slice (some ⟨kb1b1,0,none⟩) 96 cb1b1),.det (.slice (some ⟨kb1b1,0,none⟩) 48 cb1b1),.det (.tuple #[FV a1,.int .i64 0]),.det (.tuple #[FV a1,.int .i64 0]),.det (FV a1),.det (.int .i64 0),.det (L3.p 0),.det (pt (L3.b 0) 6),.store (.base 2) 6 (FC a1) (GC ⟨⟨0,a1⟩,0,false⟩),.det (.int .i64 0)] (Pl.nn 10) [0,1,3,7,15,15,0,95,223,511] (fun L d=>D d 0 2++([L0.p 0,d 3,.slice (some ⟨kb1b1,0,none⟩) 96 cb1b1]++(D d 5 2++([.int .i64 0,L3.p 0]++D d 9 74)))) (fun L=>[(L0.b 0,GC ⟨0,0,false⟩),(kb1b1,BC f 96),(L3.b 0,GC ⟨⟨0,a1⟩,0,false⟩)]) hp4 ⟨
  oM,oSS (len:=96) (n:=48) Tryz.underlying45 sizeY (by have:=lb1b1;omega),oCS (fun L=>#[.slice (some ⟨kb1b1,0,none⟩) 48 cb1b1]) (fun L w hs=>refTakeF (fun j=>f (0+j)) _ _ w (box_sub 0 48 (seen_at hs (k:=1) rfl) (by decide)) (fun j hj=>rf (0+j) (by omega)) a1 ha1),
  oM,oX,oX,oF fG0,oI aP,oT rF,oA,
  trivial⟩ (fun L4 d4 w5 hp5=>?_)
 refine wp_seq_k (fun K7 k7=>?_)
 refine sgsD [.det (.int .i64 0),.det (.bool true)] [0,1] [0,1] (fun L d=>D d 0 2++([L0.p 0,d 3,.slice (some ⟨kb1b1,0,none⟩) 96 cb1b1]++(D d 5 3++([L3.p 0]++(D d 9 26++([.bool true]++D d 36 47)))))) (fun L=>[(L0.b 0,GC ⟨0,0,false⟩),(kb1b1,BC f 96),(L3.b 0,GC ⟨⟨0,a1⟩,0,false⟩)]) hp5 ⟨
  oM,oJ .i64 .i64 0 0 (h:=fun w=>(eqlI _ _ _ _ w).trans rfl),
  trivial⟩ (fun L5 d5 w6 hp6=>?_)
 refine cT ?_
 refine gsD [.det (.slice (some ⟨kb1b1,0,none⟩) 96 cb1b1),.det (.slice (some ⟨kb1b1,48,none⟩) 48 (cb1b1-48)),.det (.tuple #[FV 0,.int .i64 4]),.det (.tuple #[FV 0,.int .i64 4]),.det (FV 0),.det (.int .i64 4),.det (L3.p 0),.det (L3.p 0),.store (.base 2) 0 (FC 0) (GC ⟨⟨0,a1⟩,0,false⟩),.det (.int .i64 4)] (Pl.nn 10) [0,1,3,7,15,15,0,95,223,511] (fun L d=>D d 0 2++([L0.p 0]++(D d 3 4++([.int .i64 4]++D d 8 75)))) (fun L=>[(L0.b 0,GC ⟨0,0,false⟩),(kb1b1,BC f 96),(L3.b 0,GC ⟨⟨0,a1⟩,0,false⟩)]) hp6 ⟨
  oM,oSG (len:=96) (c:=cb1b1) (n:=48) (by decide) (by have:=lb1b1;omega) lb1b1,oCS (fun L=>#[.slice (some ⟨kb1b1,48,none⟩) 48 (cb1b1-48)]) (fun L w hs=>refTakeBig (fun j=>f (48+j)) _ _ w (box_sub 48 48 (seen_at hs (k:=1) rfl) (by decide)) (fun j hj=>rf (48+j) (by omega)) ha0),
  oM,oX,oX,oF fG0,oI aP,oT rF,oA,
  trivial⟩ (fun L6 d6 w7 hp7=>?_)
 refine k7 _ _ ?_
 refine wp_seq_k (fun K9 k9=>?_)
 refine sgsD [.det (.int .i64 4),.det (.bool true)] [0,1] [0,1] (fun L d=>D d 0 2++([L0.p 0]++(D d 3 4++([.int .i64 4]++(D d 8 37++([.bool true]++D d 46 37)))))) (fun L=>[(L0.b 0,GC ⟨0,0,false⟩),(kb1b1,BC f 96),(L3.b 0,GC ⟨⟨0,a1⟩,0,false⟩)]) hp7 ⟨
  oM,oJ .i64 .i64 4 0 (h:=fun w=>(neqI _ _ _ _ w).trans rfl),
  trivial⟩ (fun L7 d7 w8 hp8=>?_)
 refine cT ?_
 refine sgsD [.det (GV ⟨0,0,false⟩),.det (.int .i64 4),.store (.base 0) 0 (GC ⟨0,0,false⟩) (GC ⟨0,0,false⟩),.det (.int .i64 4)] [0,1,2,3] [0,0,1,7] (fun L d=>D d 0 2++([L0.p 0,.int .i64 4]++D d 4 79)) (fun L=>[(L0.b 0,GC ⟨0,0,false⟩),(kb1b1,BC f 96),(L3.b 0,GC ⟨⟨0,a1⟩,0,false⟩)]) hp8 ⟨
  oD buildGn,oM,oT rG,oA,
  trivial⟩ (fun L8 d8 w9 hp9=>?_)
 refine wp_ret ?_
 refine bodyPost_ret (v:=.tuple #[GV ⟨0,0,false⟩,.int .i64 4]) ?_ rfl ?_
 ·exact rct rG rfl (by kernel_rfl) (by kernel_rfl) (hp9.bound 0 rfl).2
 ·exact ⟨fin0 ,hp9.bel⟩
theorem ref5Take2e2 (R:RefK) (p:Option Addr) (n c:Nat) (w:World) (hH:∀ x,Below w.heap.size w x→Calls Tryz.prog 57 #[.slice p n c,.int .i64 96] x (Ret (.tuple #[.slice none 0 0,.bool false,.bool false,.int .i64 2]) x)):Calls Tryz.prog 26 #[.slice p n c] w (Ret (tkF 2) w):=by
 have hp0:=Heap.start w
 go_enter Tryz.func26,Tryz.ntmps26
 refine sgsD [.alloc (GC ⟨0,0,false⟩),.det (.int .i64 0)] [0,1] [0,0] (fun L d=>[.slice p n c,d 1,L.p 0]++D d 3 80) (fun L=>[(L.b 0,GC ⟨0,0,false⟩)]) hp0 ⟨
  oZ rG,oA,
  trivial⟩ (fun L0 _ w1 hp1=>?_)
 refine sgsD [.det (.slice p n c),.det (.tuple #[.slice none 0 0,.bool false,.bool false,.int .i64 2]),.det (.tuple #[.slice none 0 0,.bool false,.bool false,.int .i64 2]),.det (.slice none 0 0),.det (.bool false),.det (.bool false),.det (.int .i64 2),.det (.slice none 0 0),.det (.bool false),.det (.bool false),.det (.int .i64 2)] (Pl.nn 11) [0,1,3,7,7,7,7,15,159,447,1023] (fun L d=>D d 0 2++([L0.p 0]++(D d 3 2++([.bool false,d 6,.int .i64 2]++D d 8 75)))) (fun L=>[(L0.b 0,GC ⟨0,0,false⟩)]) hp1 ⟨
  oM,oH (v:=.tuple #[.slice none 0 0,.bool false,.bool false,.int .i64 2]) (vs:=#[.slice p n c,.int .i64 96]) (fun w hb0 _=>hH w (Below.trans (Below.refl _ _) hb0)),
  oM,oX,oX,oX,oX,oA,oA,oA,oA,
  trivial⟩ (fun L1 _ w2 hp2=>?_)
 refine wp_seq_k (fun K3 k3=>?_)
 refine sgsD [.det (.int .i64 2),.det (.bool true),.det (.bool true),.det undef,.det (.bool true)] (Pl.nn 5) [0,1,3,7,15] (fun L d=>D d 0 2++([L0.p 0]++(D d 3 2++([.bool false,d 6,.int .i64 2]++(D d 8 14++([.bool true]++D d 23 60)))))) (fun L=>[(L0.b 0,GC ⟨0,0,false⟩)]) hp2 ⟨
  oM,oJ .i64 .i64 2 0 (h:=fun w=>(neqI _ _ _ _ w).trans rfl),oM,oS,oP,
  trivial⟩ (fun L2 _ w3 hp3=>?_)
 refine cT ?_
 refine sgsD [.det (.bool false),.det (GV ⟨0,0,false⟩),.det (.int .i64 2),.store (.base 0) 0 (GC ⟨0,0,false⟩) (GC ⟨0,0,false⟩),.det (.int .i64 2)] (Pl.nn 5) [0,1,0,3,15] (fun L d=>D d 0 2++([L0.p 0,.int .i64 2]++D d 4 79)) (fun L=>[(L0.b 0,GC ⟨0,0,false⟩)]) hp3 ⟨
  oM,oD (buildGi false),oM,oT rG,oA,
  trivial⟩ (fun L3 _ w4 hp4=>?_)
 refine wp_ret ?_
 refine bodyPost_ret (v:=.tuple #[GV ⟨0,0,false⟩,.int .i64 2]) ?_ rfl ?_
 ·exact rct rG rfl (by kernel_rfl) (by kernel_rfl) (hp4.bound 0 rfl).2
 ·exact ⟨rfl,hp4.bel⟩
theorem ref5Take2e8 (R:RefK) (p:Option Addr) (n c:Nat) (w:World) (hH:∀ x,Below w.heap.size w x→Calls Tryz.prog 57 #[.slice p n c,.int .i64 96] x (Ret (.tuple #[.slice none 0 0,.bool false,.bool false,.int .i64 8]) x)):Calls Tryz.prog 26 #[.slice p n c] w (Ret (tkF 8) w):=by
 have hp0:=Heap.start w
 go_enter Tryz.func26,Tryz.ntmps26
 refine sgsD [.alloc (GC ⟨0,0,false⟩),.det (.int .i64 0)] [0,1] [0,0] (fun L d=>[.slice p n c,d 1,L.p 0]++D d 3 80) (fun L=>[(L.b 0,GC ⟨0,0,false⟩)]) hp0 ⟨
  oZ rG,oA,
  trivial⟩ (fun L0 _ w1 hp1=>?_)
 refine sgsD [.det (.slice p n c),.det (.tuple #[.slice none 0 0,.bool false,.bool false,.int .i64 8]),.det (.tuple #[.slice none 0 0,.bool false,.bool false,.int .i64 8]),.det (.slice none 0 0),.det (.bool false),.det (.bool false),.det (.int .i64 8),.det (.slice none 0 0),.det (.bool false),.det (.bool false),.det (.int .i64 8)] (Pl.nn 11) [0,1,3,7,7,7,7,15,159,447,1023] (fun L d=>D d 0 2++([L0.p 0]++(D d 3 2++([.bool false,d 6,.int .i64 8]++D d 8 75)))) (fun L=>[(L0.b 0,GC ⟨0,0,false⟩)]) hp1 ⟨
  oM,oH (v:=.tuple #[.slice none 0 0,.bool false,.bool false,.int .i64 8]) (vs:=#[.slice p n c,.int .i64 96]) (fun w hb0 _=>hH w (Below.trans (Below.refl _ _) hb0)),
  oM,oX,oX,oX,oX,oA,oA,oA,oA,
  trivial⟩ (fun L1 _ w2 hp2=>?_)
 refine wp_seq_k (fun K3 k3=>?_)
 refine sgsD [.det (.int .i64 8),.det (.bool true),.det (.bool true),.det undef,.det (.bool true)] (Pl.nn 5) [0,1,3,7,15] (fun L d=>D d 0 2++([L0.p 0]++(D d 3 2++([.bool false,d 6,.int .i64 8]++(D d 8 14++([.bool true]++D d 23 60)))))) (fun L=>[(L0.b 0,GC ⟨0,0,false⟩)]) hp2 ⟨
  oM,oJ .i64 .i64 8 0 (h:=fun w=>(neqI _ _ _ _ w).trans rfl),oM,oS,oP,
  trivial⟩ (fun L2 _ w3 hp3=>?_)
 refine cT ?_
 refine sgsD [.det (.bool false),.det (GV ⟨0,0,false⟩),.det (.int .i64 8),.store (.base 0) 0 (GC ⟨0,0,false⟩) (GC ⟨0,0,false⟩),.det (.int .i64 8)] (Pl.nn 5) [0,1,0,3,15] (fun L d=>D d 0 2++([L0.p 0,.int .i64 8]++D d 4 79)) (fun L=>[(L0.b 0,GC ⟨0,0,false⟩)]) hp3 ⟨
  oM,oD (buildGi false),oM,oT rG,oA,
  trivial⟩ (fun L3 _ w4 hp4=>?_)
 refine wp_ret ?_
 refine bodyPost_ret (v:=.tuple #[GV ⟨0,0,false⟩,.int .i64 8]) ?_ rfl ?_
 ·exact rct rG rfl (by kernel_rfl) (by kernel_rfl) (hp4.bound 0 rfl).2
 ·exact ⟨rfl,hp4.bel⟩
theorem ref5Take2e3 (R:RefK) (p:Option Addr) (n c:Nat) (w:World) (hH:∀ x,Below w.heap.size w x→Calls Tryz.prog 57 #[.slice p n c,.int .i64 96] x (Ret (.tuple #[.slice none 0 0,.bool false,.bool false,.int .i64 3]) x)):Calls Tryz.prog 26 #[.slice p n c] w (Ret (tkF 3) w):=by
 have hp0:=Heap.start w
 go_enter Tryz.func26,Tryz.ntmps26
 refine sgsD [.alloc (GC ⟨0,0,false⟩),.det (.int .i64 0)] [0,1] [0,0] (fun L d=>[.slice p n c,d 1,L.p 0]++D d 3 80) (fun L=>[(L.b 0,GC ⟨0,0,false⟩)]) hp0 ⟨
  oZ rG,oA,
  trivial⟩ (fun L0 _ w1 hp1=>?_)
 refine sgsD [.det (.slice p n c),.det (.tuple #[.slice none 0 0,.bool false,.bool false,.int .i64 3]),.det (.tuple #[.slice none 0 0,.bool false,.bool false,.int .i64 3]),.det (.slice none 0 0),.det (.bool false),.det (.bool false),.det (.int .i64 3),.det (.slice none 0 0),.det (.bool false),.det (.bool false),.det (.int .i64 3)] (Pl.nn 11) [0,1,3,7,7,7,7,15,159,447,1023] (fun L d=>D d 0 2++([L0.p 0]++(D d 3 2++([.bool false,d 6,.int .i64 3]++D d 8 75)))) (fun L=>[(L0.b 0,GC ⟨0,0,false⟩)]) hp1 ⟨
  oM,oH (v:=.tuple #[.slice none 0 0,.bool false,.bool false,.int .i64 3]) (vs:=#[.slice p n c,.int .i64 96]) (fun w hb0 _=>hH w (Below.trans (Below.refl _ _) hb0)),
  oM,oX,oX,oX,oX,oA,oA,oA,oA,
  trivial⟩ (fun L1 _ w2 hp2=>?_)
 refine wp_seq_k (fun K3 k3=>?_)
 refine sgsD [.det (.int .i64 3),.det (.bool true),.det (.bool true),.det undef,.det (.bool true)] (Pl.nn 5) [0,1,3,7,15] (fun L d=>D d 0 2++([L0.p 0]++(D d 3 2++([.bool false,d 6,.int .i64 3]++(D d 8 14++([.bool true]++D d 23 60)))))) (fun L=>[(L0.b 0,GC ⟨0,0,false⟩)]) hp2 ⟨
  oM,oJ .i64 .i64 3 0 (h:=fun w=>(neqI _ _ _ _ w).trans rfl),oM,oS,oP,
  trivial⟩ (fun L2 _ w3 hp3=>?_)
 refine cT ?_
 refine sgsD [.det (.bool false),.det (GV ⟨0,0,false⟩),.det (.int .i64 3),.store (.base 0) 0 (GC ⟨0,0,false⟩) (GC ⟨0,0,false⟩),.det (.int .i64 3)] (Pl.nn 5) [0,1,0,3,15] (fun L d=>D d 0 2++([L0.p 0,.int .i64 3]++D d 4 79)) (fun L=>[(L0.b 0,GC ⟨0,0,false⟩)]) hp3 ⟨
  oM,oD (buildGi false),oM,oT rG,oA,
  trivial⟩ (fun L3 _ w4 hp4=>?_)
 refine wp_ret ?_
 refine bodyPost_ret (v:=.tuple #[GV ⟨0,0,false⟩,.int .i64 3]) ?_ rfl ?_
 ·exact rct rG rfl (by kernel_rfl) (by kernel_rfl) (hp4.bound 0 rfl).2
 ·exact ⟨rfl,hp4.bel⟩
theorem ref5Take2i (R:RefK) (p:Option Addr) (n c:Nat) (w:World) (hH:∀ x,Below w.heap.size w x→Calls Tryz.prog 57 #[.slice p n c,.int .i64 96] x (Ret (.tuple #[.slice none 0 0,.bool true,.bool false,.int .i64 0]) x)):Calls Tryz.prog 26 #[.slice p n c] w (Ret (.tuple #[GV ⟨0,0,true⟩,.int .i64 0]) w):=by
 have hp0:=Heap.start w
 go_enter Tryz.func26,Tryz.ntmps26
 refine sgsD [.alloc (GC ⟨0,0,false⟩),.det (.int .i64 0)] [0,1] [0,0] (fun L d=>[.slice p n c,d 1,L.p 0]++D d 3 80) (fun L=>[(L.b 0,GC ⟨0,0,false⟩)]) hp0 ⟨
  oZ rG,oA,
  trivial⟩ (fun L0 _ w1 hp1=>?_)
 refine sgsD [.det (.slice p n c),.det (.tuple #[.slice none 0 0,.bool true,.bool false,.int .i64 0]),.det (.tuple #[.slice none 0 0,.bool true,.bool false,.int .i64 0]),.det (.slice none 0 0),.det (.bool true),.det (.bool false),.det (.int .i64 0),.det (.slice none 0 0),.det (.bool true),.det (.bool false),.det (.int .i64 0)] (Pl.nn 11) [0,1,3,7,7,7,7,15,159,447,1023] (fun L d=>D d 0 2++([L0.p 0]++(D d 3 2++([.bool true,d 6,.int .i64 0]++D d 8 75)))) (fun L=>[(L0.b 0,GC ⟨0,0,false⟩)]) hp1 ⟨
  oM,oH (v:=.tuple #[.slice none 0 0,.bool true,.bool false,.int .i64 0]) (vs:=#[.slice p n c,.int .i64 96]) (fun w hb0 _=>hH w (Below.trans (Below.refl _ _) hb0)),
  oM,oX,oX,oX,oX,oA,oA,oA,oA,
  trivial⟩ (fun L1 _ w2 hp2=>?_)
 refine wp_seq_k (fun K3 k3=>?_)
 refine sgsD [.det (.int .i64 0),.det (.bool false),.det (.bool false),.det (.bool true),.det (.bool true)] (Pl.nn 5) [0,1,3,7,15] (fun L d=>D d 0 2++([L0.p 0]++(D d 3 2++([.bool true,d 6,.int .i64 0]++(D d 8 14++([.bool true]++D d 23 60)))))) (fun L=>[(L0.b 0,GC ⟨0,0,false⟩)]) hp2 ⟨
  oM,oJ .i64 .i64 0 0 (h:=fun w=>(neqI _ _ _ _ w).trans rfl),oM,oM,oP,
  trivial⟩ (fun L2 _ w3 hp3=>?_)
 refine cT ?_
 refine sgsD [.det (.bool true),.det (GV ⟨0,0,true⟩),.det (.int .i64 0),.store (.base 0) 0 (GC ⟨0,0,true⟩) (GC ⟨0,0,true⟩),.det (.int .i64 0)] (Pl.nn 5) [0,1,0,3,15] (fun L d=>D d 0 2++([L0.p 0,.int .i64 0]++D d 4 79)) (fun L=>[(L0.b 0,GC ⟨0,0,true⟩)]) hp3 ⟨
  oM,oD (buildGi true),oM,oT rG,oA,
  trivial⟩ (fun L3 _ w4 hp4=>?_)
 refine wp_ret ?_
 refine bodyPost_ret (v:=.tuple #[GV ⟨0,0,true⟩,.int .i64 0]) ?_ rfl ?_
 ·exact rct rG rfl (by kernel_rfl) (by kernel_rfl) (hp4.bound 0 rfl).2
 ·exact ⟨rfl,hp4.bel⟩
theorem ref5Take2 (R:RefK) (p:Option Addr) (n c:Nat) (g:Nat→Int) (w:World) (hb:AtK .u8 w p n g) (rg:∀ j,j<n→0≤g j∧g j<256):Calls Tryz.prog 26 #[.slice p n c] w (Ret (tkB g n) w):=by
 unfold tkB
 by_cases h1:n<96
 ·rw [if_pos h1];exact ref5Take2e2 R p n c w fun x _=>ref5hdShort p n c 96 x h1
 rw [if_neg h1]
 by_cases h2:96<n
 ·rw [if_pos h2];exact ref5Take2e8 R p n c w fun x _=>ref5hdLong p n c 96 x h2
 rw [if_neg h2]
 obtain rfl:n=96:=by omega
 have r0:=(rg 0 (by decide)).1
 by_cases hl:g 0 / 32<4
 ·rw [if_pos hl];exact ref5Take2e3 R p 96 c w fun x hx=>ref5hdLow 96 p c g x (by decide) (by decide) (AtK.below hb hx) r0 hl
 rw [if_neg hl]
 by_cases h6:6≤g 0 / 32
 ·rw [if_pos h6]
  have hB:=fun (x:World) (hx:Below w.heap.size w x)=>ref5hdBig 96 p c g x (by decide) (by decide) (AtK.below hb hx) r0 hl h6
  cases hz:hdz g 96 with
  | false=>rw [hz] at hB;exact ref5Take2e3 R p 96 c w hB
  | true=>rw [hz] at hB;exact ref5Take2i R p 96 c w hB
 rw [if_neg h6]
 have rf:=su_rg rg (by decide)
 have r1:∀ j,j<48→0≤(su g 0 (g 0%32)) (0+j)∧(su g 0 (g 0%32)) (0+j)<256:=fun j hj=>rf _ (by omega)
 have r2:∀ j,j<48→0≤(su g 0 (g 0%32)) (48+j)∧(su g 0 (g 0%32)) (48+j)<256:=fun j hj=>rf _ (by omega)
 have hH:=fun (x:World) (hx:AtK .u8 x p 96 g)=>ref5hdOk 96 p c g x (by decide) (by decide) hx r0 hl h6
 by_cases h1:bv (fun j=>(su g 0 (g 0%32)) (0+j)) 48<RI
 ·rw [if_pos h1]
  by_cases h0:bv (fun j=>(su g 0 (g 0%32)) (48+j)) 48<RI
  ·rw [if_pos h0];exact ref5Take2ok R p c g _ _ _ _ w hb hH rf (ofB_val r1 h1) (ofB_val r2 h0)
  ·rw [if_neg h0];exact ref5Take2b0 R p c g _ _ _ w hb hH rf (ofB_val r1 h1) (by omega)
 ·rw [if_neg h1];exact ref5Take2b1 R p c g _ _ w hb hH rf (by omega)
end Go.Proofs.YtmibajbpimcfnaaGreatDoor.fpn.T2
