/- Texts laid together. -/
import Derived.Test.YtmibajbpimcfnaaGreatDoorGX
import Derived.Test.YtmibajbpimcfnaaGreatDoorGY
import Derived.Test.YtmibajbpimcfnaaGreatDoorGM
set_option linter.unusedVariables false
set_option linter.unusedSimpArgs false
set_option maxRecDepth 4000
set_option maxHeartbeats 4000000
/- The reference's Take1. -/
namespace Go.Proofs.YtmibajbpimcfnaaGreatDoor.fpn
open Go.RowKit Pl EC
theorem on_rt {a c y:F} (hc:c=a*a*a+4) (hq:isq c=true) (hy:y=root c):y*y=a*a*a+4:=by rw [hy,← hc];exact root_sq hq
theorem on_rn {a c y z:F} (hc:c=a*a*a+4) (hq:isq c=true) (hy:y=root c) (hz:z=-y):z*z=a*a*a+4:=by
 rw [← on_rt hc hq hy,hz];grind
theorem ref5Take1ok (R:RefK) (p:Option Addr) (c:Nat) (g f:Nat→Int) (a:F) (gr:Bool) (w:World) (hb:AtK .u8 w p 48 g) (hH:∀ w,AtK .u8 w p 48 g→Calls Tryz.prog 57 #[.slice p 48 c,.int .i64 48] w (RetT (fun s=>.tuple #[s,.bool false,.bool gr,.int .i64 0]) f 48 w)) (rf:∀ j,j<48→0≤f j∧f j<256) (ha:bv f 48=(a.val:Int)):Calls Tryz.prog 24 #[.slice p 48 c] w (Ret (tk1 a gr) w):=by
 obtain ⟨n1,o1⟩:=nm (a*a:F)
 obtain ⟨n2,o2⟩:=nm (n1*a:F)
 obtain ⟨n3,o3⟩:=nm (n2+4:F)
 obtain ⟨n4,o4⟩:=nm (root n3:F)
 obtain ⟨n5,o5⟩:=nm (-n4:F)
 have fin0:(isq n3)=true→(decide (n4=0))=true→(gr)=true→Ending.returned (.tuple #[GV ⟨0,0,false⟩,.int .i64 3])=Ending.returned (tk1 a gr):=by subst_vars;intro h1q h2q h3q;unfold tk1;rw [h1q,h2q,h3q];rfl
 have fin1:(isq n3)=true→(decide (n4=0))=true→(gr)=false→(decide (mul finv ordR (.aff a n4)=.inf))=true→Ending.returned (.tuple #[GV ⟨a,n4,false⟩,.int .i64 0])=Ending.returned (tk1 a gr):=by subst_vars;intro h1q h2q h3q h4q;unfold tk1;rw [h1q,h2q,h3q,h4q];rfl
 have fin2:(isq n3)=true→(decide (n4=0))=true→(gr)=false→(decide (mul finv ordR (.aff a n4)=.inf))=false→Ending.returned (.tuple #[GV ⟨0,0,false⟩,.int .i64 6])=Ending.returned (tk1 a gr):=by subst_vars;intro h1q h2q h3q h4q;unfold tk1;rw [h1q,h2q,h3q,h4q];rfl
 have fin3:(isq n3)=true→(decide (n4=0))=false→(gr)=true→(decide (mul finv ordR (.aff a n5)=.inf))=true→Ending.returned (.tuple #[GV ⟨a,n5,false⟩,.int .i64 0])=Ending.returned (tk1 a gr):=by subst_vars;intro h1q h2q h3q h4q;unfold tk1;rw [h1q,h2q,h3q,h4q];rfl
 have fin4:(isq n3)=true→(decide (n4=0))=false→(gr)=true→(decide (mul finv ordR (.aff a n5)=.inf))=false→Ending.returned (.tuple #[GV ⟨0,0,false⟩,.int .i64 6])=Ending.returned (tk1 a gr):=by subst_vars;intro h1q h2q h3q h4q;unfold tk1;rw [h1q,h2q,h3q,h4q];rfl
 have fin5:(isq n3)=true→(decide (n4=0))=false→(gr)=false→(decide (mul finv ordR (.aff a n4)=.inf))=true→Ending.returned (.tuple #[GV ⟨a,n4,false⟩,.int .i64 0])=Ending.returned (tk1 a gr):=by subst_vars;intro h1q h2q h3q h4q;unfold tk1;rw [h1q,h2q,h3q,h4q];rfl
 have fin6:(isq n3)=true→(decide (n4=0))=false→(gr)=false→(decide (mul finv ordR (.aff a n4)=.inf))=false→Ending.returned (.tuple #[GV ⟨0,0,false⟩,.int .i64 6])=Ending.returned (tk1 a gr):=by subst_vars;intro h1q h2q h3q h4q;unfold tk1;rw [h1q,h2q,h3q,h4q];rfl
 have fin7:(isq n3)=false→Ending.returned (.tuple #[GV ⟨0,0,false⟩,.int .i64 5])=Ending.returned (tk1 a gr):=by subst_vars;intro h1q;unfold tk1;rw [h1q];rfl
 have hp0:=Heap.start w
 go_enter Tryz.func24,Tryz.ntmps24
 refine sgsD [.alloc (GC ⟨0,0,false⟩),.det (.int .i64 0)] [0,1] [0,0] (fun L d=>[.slice p 48 c,d 1,L.p 0]++D d 3 68) (fun L=>[(L.b 0,GC ⟨0,0,false⟩)]) hp0 ⟨
  oZ rG,oA,
  trivial⟩ (fun L0 d0 w1 hp1=>?_)
 refine wp_seq_k (fun K2 k2=>?_)
 refine gsA [.det (.slice p 48 c),.any (isT (fun s=>.tuple #[s,.bool false,.bool gr,.int .i64 0]) w.heap.size [L0.b 0] f 48),.detV 1 (fun v=>v),.detV 1 (tupAt 0),.det (.bool false),.det (.bool gr),.det (.int .i64 0),.detV 1 (tupAt 0),.det (.bool false),.det (.bool gr),.det (.int .i64 0)] (nn 11) [0,1,3,7,7,7,7,15,159,447,1023] (fun L=>[.slice p 48 c,d0 1,L0.p 0,d0 3,tupAt 0 (L.v 1),.bool false,.bool gr,.int .i64 0]++(D d0 8 3++([L.v 1,.slice p 48 c,L.v 1,tupAt 0 (L.v 1),.bool false,.bool gr,.int .i64 0]++D d0 18 53))) (fun L=>[(L0.b 0,GC ⟨0,0,false⟩)]) hp1 ⟨
  oM,oY (fun L=>#[.slice p 48 c,.int .i64 48]) (fun _ _ _ h hb=>h.stay hb) (fun L w hs=>newT hs [L0.b 0] (hH w (AtK.below hb hs.bel))),oMV,oXS 1 (fun _=>rfl),
  oXT 1 (fun _=>rfl),oXT 1 (fun _=>rfl),oXT 1 (fun _=>rfl),oAX,oA,oA,oA,
  trivial⟩ (fun L1 w2 hp2 ha2=>?_)
 obtain ⟨_,eb1b1,kb1b1,cb1b1,rfl,lb1b1,mb1b1,qb1b1,ub1b1,xb1b1⟩:=AnyF.at ha2 (j:=1) rfl rfl
 rw [eb1b1]
 have hp21b1:=Heap.add hp2 qb1b1 ub1b1 xb1b1
 refine k2 _ _ ?_
 refine wp_seq_k (fun K3 k3=>?_)
 refine sgsD [.det (.int .i64 0),.det (.bool false),.det (.bool false),.det (.bool false),.det (.bool false)] (nn 5) [0,1,3,7,15] (fun L d=>D d 0 2++([L0.p 0,d 3,.slice (some ⟨kb1b1,0,none⟩) 48 cb1b1,d 5,.bool gr]++(D d 7 15++([.bool false]++D d 23 48)))) (fun L=>[(L0.b 0,GC ⟨0,0,false⟩),(kb1b1,BC f 48)]) hp21b1 ⟨
  oM,oJ .i64 .i64 0 0 (h:=fun w=>(neqI _ _ _ _ w).trans rfl),oM,oM,oP,
  trivial⟩ (fun L2 d2 w3 hp3=>?_)
 refine cfk (k3 _ _ ?_)
 refine sgsD [.alloc (GC ⟨0,0,false⟩)] [0] [0] (fun L d=>D d 0 2++([L0.p 0,d 3,.slice (some ⟨kb1b1,0,none⟩) 48 cb1b1,d 5,.bool gr,d 7,L.p 0]++D d 9 62)) (fun L=>[(L0.b 0,GC ⟨0,0,false⟩),(kb1b1,BC f 48),(L.b 0,GC ⟨0,0,false⟩)]) hp3 ⟨
  oZ rG,
  trivial⟩ (fun L3 d3 w4 hp4=>?_)
 refine sgsD [.det (.slice (some ⟨kb1b1,0,none⟩) 48 cb1b1),.det (.tuple #[FV a,.int .i64 0]),.det (.tuple #[FV a,.int .i64 0]),.det (FV a),.det (.int .i64 0),.det (L3.p 0),.store (.base 2) 0 (FC a) (GC ⟨a,0,false⟩),.det (.int .i64 0)] (nn 8) [0,1,3,7,7,15,47,127] (fun L d=>D d 0 2++([L0.p 0]++(D d 3 3++([.bool gr,.int .i64 0,L3.p 0]++D d 9 62)))) (fun L=>[(L0.b 0,GC ⟨0,0,false⟩),(kb1b1,BC f 48),(L3.b 0,GC ⟨a,0,false⟩)]) hp4 ⟨
  oM,oCS (fun L=>#[.slice (some ⟨kb1b1,0,none⟩) 48 cb1b1]) (fun L w hs=>refTakeF f _ _ w (box_at (seen_at hs (k:=1) rfl)) rf a ha),oM,oX,oX,oF fG0,
  oT rF,oA,
  trivial⟩ (fun L4 d4 w5 hp5=>?_)
 refine wp_seq_k (fun K7 k7=>?_)
 refine sgsD [.det (.int .i64 0),.det (.bool false)] [0,1] [0,1] (fun L d=>D d 0 2++([L0.p 0]++(D d 3 3++([.bool gr,d 7,L3.p 0]++(D d 9 24++([.bool false]++D d 34 37)))))) (fun L=>[(L0.b 0,GC ⟨0,0,false⟩),(kb1b1,BC f 48),(L3.b 0,GC ⟨a,0,false⟩)]) hp5 ⟨
  oM,oJ .i64 .i64 0 0 (h:=fun w=>(neqI _ _ _ _ w).trans rfl),
  trivial⟩ (fun L5 d5 w6 hp6=>?_)
 refine cfk (k7 _ _ ?_)
 refine sdrD [.det (L3.p 0),.det (FV a),.det (L3.p 0),.det (FV a),.det (FV n1),.det (L3.p 0),.det (FV a),.det (FV n2),.det (FV 4),.det (FV n3),.det (.tuple #[FV n4,.bool (isq n3)]),.det (.tuple #[FV n4,.bool (isq n3)]),.det (FV n4),.det (.bool (isq n3)),.alloc (FC 0),.store (.new 14) 0 (FC n4) (FC n4),.det (.bool (isq n3))] (nn 17) [0,1,0,4,15,0,32,127,255,511,1023,2047,4095,4095,0,24575,65535] (fun L d=>D d 0 2++([L0.p 0]++(D d 3 3++([.bool gr,d 7,L3.p 0,L.p 14,.bool (isq n3)]++D d 11 60)))) (fun L=>[(L0.b 0,GC ⟨0,0,false⟩),(kb1b1,BC f 48),(L3.b 0,GC ⟨a,0,false⟩),(L.b 14,FC n4)]) hp6 ⟨
  oF fG0,oL 2 0 rF,oF fG0,oL 2 0 rF,oR (nFR o1 (fun w=>R.mul a a w trivial)),oF fG0,oL 2 0 rF,oR (nFR o2 (fun w=>R.mul n1 a w trivial)),oR R.of4,oR (nFR o3 (fun w=>R.add n2 4 w trivial)),
  oR (nTR o4 (fun w=>R.sqrt n3 w trivial)),oM,oX,oX,oZ rF,oT rF,oA,
  trivial⟩ (fun L6 d6 w7 hp7=>?_)
 refine wp_seq_k (fun K10 k10=>?_)
 refine sgsD [.det (.bool (isq n3)),.det (.bool (!isq n3))] [0,1] [0,1] (fun L d=>D d 0 2++([L0.p 0]++(D d 3 3++([.bool gr,d 7,L3.p 0,L6.p 14]++(D d 10 41++([.bool (!isq n3)]++D d 52 19)))))) (fun L=>[(L0.b 0,GC ⟨0,0,false⟩),(kb1b1,BC f 48),(L3.b 0,GC ⟨a,0,false⟩),(L6.b 14,FC n4)]) hp7 ⟨
  oM,oN,
  trivial⟩ (fun L7 d7 w8 hp8=>?_)
 rcases Bool.eq_false_or_eq_true (isq n3) with h1q | h1q
 ·skip
  refine cond_f (nt_t h1q) ?_
  refine skips ?_
  refine k10 _ _ ?_
  refine wp_seq_k (fun K12 k12=>?_)
  refine wp_seq_k (fun K13 k13=>?_)
  rcases Bool.eq_false_or_eq_true (decide (n4=0)) with h2q | h2q
  ·skip
   refine gsD [.det (FV n4),.det (FV 0),.det (.bool true),.det (.bool true),.det (.bool gr),.det (.bool gr)] (nn 6) [0,0,3,7,15,31] (fun L d=>D d 0 2++([L0.p 0]++(D d 3 3++([.bool gr,d 7,L3.p 0,L6.p 14]++(D d 10 48++([.bool gr]++D d 59 12)))))) (fun L=>[(L0.b 0,GC ⟨0,0,false⟩),(kb1b1,BC f 48),(L3.b 0,GC ⟨a,0,false⟩),(L6.b 14,FC n4)]) hp8 ⟨
    oL 3 0 rF,oD buildF0,oE (a:=n4) (b:=0) qF (yes (of_decide_eq_true h2q)),oM,oM,oP,
    trivial⟩ (fun L8 d8 w9 hp9=>?_)
   refine k13 _ _ ?_
   rcases Bool.eq_false_or_eq_true (gr) with h3q | h3q
   ·skip
    refine cond_t h3q ?_
    refine sgsD [.det (GV ⟨0,0,false⟩),.store (.base 0) 0 (GC ⟨0,0,false⟩) (GC ⟨0,0,false⟩),.det (.int .i64 3)] [0,1,2] [0,1,3] (fun L d=>D d 0 2++([L0.p 0,.int .i64 3]++D d 4 67)) (fun L=>[(L0.b 0,GC ⟨0,0,false⟩),(kb1b1,BC f 48),(L3.b 0,GC ⟨a,0,false⟩),(L6.b 14,FC n4)]) hp9 ⟨
     oD buildGn,oT rG,oA,
     trivial⟩ (fun L9 d9 w10 hp10=>?_)
    refine wp_ret ?_
    refine bodyPost_ret (v:=.tuple #[GV ⟨0,0,false⟩,.int .i64 3]) ?_ rfl ?_
    ·exact rct rG rfl (by kernel_rfl) (by kernel_rfl) (hp10.bound 0 rfl).2
    ·exact ⟨fin0 h1q h2q h3q,hp10.bel⟩
   ·skip
    refine cond_f h3q ?_
    refine skips ?_
    refine k12 _ _ ?_
    refine sgsD [.det (FV n4),.det (pt (L3.b 0) 6),.store (.base 2) 6 (FC n4) (GC ⟨a,n4,false⟩)] [0,1,2] [0,1,3] (fun L d=>D d 0 2++([L0.p 0]++(D d 3 3++([.bool gr,d 7,L3.p 0]++D d 9 62)))) (fun L=>[(L0.b 0,GC ⟨0,0,false⟩),(kb1b1,BC f 48),(L3.b 0,GC ⟨a,n4,false⟩),(L6.b 14,FC n4)]) hp9 ⟨
     oL 3 0 rF,oF fG1,oT rF,
     trivial⟩ (fun L9 d9 w10 hp10=>?_)
    refine wp_seq_k (fun K15 k15=>?_)
    refine sgsD [.det (.bool false)] [0] [0] (fun L d=>D d 0 2++([L0.p 0]++(D d 3 5++([L3.p 0]++(D d 9 53++([.bool false]++D d 63 8)))))) (fun L=>[(L0.b 0,GC ⟨0,0,false⟩),(kb1b1,BC f 48),(L3.b 0,GC ⟨a,n4,false⟩),(L6.b 14,FC n4)]) hp10 ⟨
     oMB h3q,
     trivial⟩ (fun L10 d10 w11 hp11=>?_)
    refine cfk (k15 _ _ ?_)
    refine wp_seq_k (fun K17 k17=>?_)
    refine sgsD [.det (GV ⟨a,n4,false⟩),.det (.bool (decide (mul finv ordR (.aff a n4)=.inf))),.det (.bool (!decide (mul finv ordR (.aff a n4)=.inf)))] [0,1,2] [0,1,3] (fun L d=>D d 0 2++([L0.p 0]++(D d 3 5++([L3.p 0]++(D d 9 59++([.bool (!decide (mul finv ordR (.aff a n4)=.inf))]++D d 69 2)))))) (fun L=>[(L0.b 0,GC ⟨0,0,false⟩),(kb1b1,BC f 48),(L3.b 0,GC ⟨a,n4,false⟩),(L6.b 14,FC n4)]) hp11 ⟨
     oL 2 0 rG,oH (v:=.bool (decide (mul finv ordR (.aff a n4)=.inf))) (vs:=#[GV ⟨a,n4,false⟩]) (fun w _ _=>ref5In1 R (.aff a n4) w (on_rt (by rw [o3,o2,o1]) h1q o4)),
     oN,
     trivial⟩ (fun L11 d11 w12 hp12=>?_)
    rcases Bool.eq_false_or_eq_true (decide (mul finv ordR (.aff a n4)=.inf)) with h4q | h4q
    ·skip
     refine cond_f (nt_t h4q) ?_
     refine skips ?_
     refine k17 _ _ ?_
     refine sgsD [.det (GV ⟨a,n4,false⟩),.store (.base 0) 0 (GC ⟨a,n4,false⟩) (GC ⟨a,n4,false⟩),.det (.int .i64 0)] [0,1,2] [0,1,3] (fun L d=>D d 0 2++([L0.p 0,.int .i64 0]++D d 4 67)) (fun L=>[(L0.b 0,GC ⟨a,n4,false⟩),(kb1b1,BC f 48),(L3.b 0,GC ⟨a,n4,false⟩),(L6.b 14,FC n4)]) hp12 ⟨
      oL 2 0 rG,oT rG,oA,
      trivial⟩ (fun L12 d12 w13 hp13=>?_)
     refine wp_ret ?_
     refine bodyPost_ret (v:=.tuple #[GV ⟨a,n4,false⟩,.int .i64 0]) ?_ rfl ?_
     ·exact rct rG rfl (by kernel_rfl) (by kernel_rfl) (hp13.bound 0 rfl).2
     ·exact ⟨fin1 h1q h2q h3q h4q,hp13.bel⟩
    ·skip
     refine cond_t (nt_f h4q) ?_
     refine sgsD [.det (GV ⟨0,0,false⟩),.store (.base 0) 0 (GC ⟨0,0,false⟩) (GC ⟨0,0,false⟩),.det (.int .i64 6)] [0,1,2] [0,1,3] (fun L d=>D d 0 2++([L0.p 0,.int .i64 6]++D d 4 67)) (fun L=>[(L0.b 0,GC ⟨0,0,false⟩),(kb1b1,BC f 48),(L3.b 0,GC ⟨a,n4,false⟩),(L6.b 14,FC n4)]) hp12 ⟨
      oD buildGn,oT rG,oA,
      trivial⟩ (fun L12 d12 w13 hp13=>?_)
     refine wp_ret ?_
     refine bodyPost_ret (v:=.tuple #[GV ⟨0,0,false⟩,.int .i64 6]) ?_ rfl ?_
     ·exact rct rG rfl (by kernel_rfl) (by kernel_rfl) (hp13.bound 0 rfl).2
     ·exact ⟨fin2 h1q h2q h3q h4q,hp13.bel⟩
  ·skip
   refine gsD [.det (FV n4),.det (FV 0),.det (.bool false),.det (.bool false),.det undef,.det (.bool false)] (nn 6) [0,0,3,7,15,31] (fun L d=>D d 0 2++([L0.p 0]++(D d 3 3++([.bool gr,d 7,L3.p 0,L6.p 14]++(D d 10 48++([.bool false]++D d 59 12)))))) (fun L=>[(L0.b 0,GC ⟨0,0,false⟩),(kb1b1,BC f 48),(L3.b 0,GC ⟨a,0,false⟩),(L6.b 14,FC n4)]) hp8 ⟨
    oL 3 0 rF,oD buildF0,oE (a:=n4) (b:=0) qF (nay (of_decide_eq_false h2q)),oM,oS,oP,
    trivial⟩ (fun L8 d8 w9 hp9=>?_)
   refine k13 _ _ ?_
   refine cfk (k12 _ _ ?_)
   refine sgsD [.det (FV n4),.det (pt (L3.b 0) 6),.store (.base 2) 6 (FC n4) (GC ⟨a,n4,false⟩)] [0,1,2] [0,1,3] (fun L d=>D d 0 2++([L0.p 0]++(D d 3 3++([.bool gr,d 7,L3.p 0,L6.p 14]++D d 10 61)))) (fun L=>[(L0.b 0,GC ⟨0,0,false⟩),(kb1b1,BC f 48),(L3.b 0,GC ⟨a,n4,false⟩),(L6.b 14,FC n4)]) hp9 ⟨
    oL 3 0 rF,oF fG1,oT rF,
    trivial⟩ (fun L9 d9 w10 hp10=>?_)
   refine wp_seq_k (fun K15 k15=>?_)
   refine sgsD [.det (.bool gr)] [0] [0] (fun L d=>D d 0 2++([L0.p 0]++(D d 3 5++([L3.p 0,L6.p 14]++(D d 10 52++([.bool gr]++D d 63 8)))))) (fun L=>[(L0.b 0,GC ⟨0,0,false⟩),(kb1b1,BC f 48),(L3.b 0,GC ⟨a,n4,false⟩),(L6.b 14,FC n4)]) hp10 ⟨
    oM,
    trivial⟩ (fun L10 d10 w11 hp11=>?_)
   rcases Bool.eq_false_or_eq_true (gr) with h3q | h3q
   ·skip
    refine cond_t h3q ?_
    refine gsD [.det (FV n4),.det (FV n5),.det (pt (L3.b 0) 6),.store (.base 2) 6 (FC n5) (GC ⟨a,n5,false⟩)] [0,1,2,3] [0,1,3,7] (fun L d=>D d 0 2++([L0.p 0]++(D d 3 5++([L3.p 0]++D d 9 62)))) (fun L=>[(L0.b 0,GC ⟨0,0,false⟩),(kb1b1,BC f 48),(L3.b 0,GC ⟨a,n5,false⟩),(L6.b 14,FC n4)]) hp11 ⟨
     oL 3 0 rF,oR (nFR o5 (fun w=>R.neg n4 w trivial)),oF fG1,oT rF,
     trivial⟩ (fun L11 d11 w12 hp12=>?_)
    refine k15 _ _ ?_
    refine wp_seq_k (fun K17 k17=>?_)
    refine sgsD [.det (GV ⟨a,n5,false⟩),.det (.bool (decide (mul finv ordR (.aff a n5)=.inf))),.det (.bool (!decide (mul finv ordR (.aff a n5)=.inf)))] [0,1,2] [0,1,3] (fun L d=>D d 0 2++([L0.p 0]++(D d 3 5++([L3.p 0]++(D d 9 59++([.bool (!decide (mul finv ordR (.aff a n5)=.inf))]++D d 69 2)))))) (fun L=>[(L0.b 0,GC ⟨0,0,false⟩),(kb1b1,BC f 48),(L3.b 0,GC ⟨a,n5,false⟩),(L6.b 14,FC n4)]) hp12 ⟨
     oL 2 0 rG,oH (v:=.bool (decide (mul finv ordR (.aff a n5)=.inf))) (vs:=#[GV ⟨a,n5,false⟩]) (fun w _ _=>ref5In1 R (.aff a n5) w (on_rn (by rw [o3,o2,o1]) h1q o4 o5)),
     oN,
     trivial⟩ (fun L12 d12 w13 hp13=>?_)
    rcases Bool.eq_false_or_eq_true (decide (mul finv ordR (.aff a n5)=.inf)) with h4q | h4q
    ·skip
     refine cond_f (nt_t h4q) ?_
     refine skips ?_
     refine k17 _ _ ?_
     refine sgsD [.det (GV ⟨a,n5,false⟩),.store (.base 0) 0 (GC ⟨a,n5,false⟩) (GC ⟨a,n5,false⟩),.det (.int .i64 0)] [0,1,2] [0,1,3] (fun L d=>D d 0 2++([L0.p 0,.int .i64 0]++D d 4 67)) (fun L=>[(L0.b 0,GC ⟨a,n5,false⟩),(kb1b1,BC f 48),(L3.b 0,GC ⟨a,n5,false⟩),(L6.b 14,FC n4)]) hp13 ⟨
      oL 2 0 rG,oT rG,oA,
      trivial⟩ (fun L13 d13 w14 hp14=>?_)
     refine wp_ret ?_
     refine bodyPost_ret (v:=.tuple #[GV ⟨a,n5,false⟩,.int .i64 0]) ?_ rfl ?_
     ·exact rct rG rfl (by kernel_rfl) (by kernel_rfl) (hp14.bound 0 rfl).2
     ·exact ⟨fin3 h1q h2q h3q h4q,hp14.bel⟩
    ·skip
     refine cond_t (nt_f h4q) ?_
     refine sgsD [.det (GV ⟨0,0,false⟩),.store (.base 0) 0 (GC ⟨0,0,false⟩) (GC ⟨0,0,false⟩),.det (.int .i64 6)] [0,1,2] [0,1,3] (fun L d=>D d 0 2++([L0.p 0,.int .i64 6]++D d 4 67)) (fun L=>[(L0.b 0,GC ⟨0,0,false⟩),(kb1b1,BC f 48),(L3.b 0,GC ⟨a,n5,false⟩),(L6.b 14,FC n4)]) hp13 ⟨
      oD buildGn,oT rG,oA,
      trivial⟩ (fun L13 d13 w14 hp14=>?_)
     refine wp_ret ?_
     refine bodyPost_ret (v:=.tuple #[GV ⟨0,0,false⟩,.int .i64 6]) ?_ rfl ?_
     ·exact rct rG rfl (by kernel_rfl) (by kernel_rfl) (hp14.bound 0 rfl).2
     ·exact ⟨fin4 h1q h2q h3q h4q,hp14.bel⟩
   ·skip
    refine cond_f h3q ?_
    refine skips ?_
    refine k15 _ _ ?_
    refine wp_seq_k (fun K17 k17=>?_)
    refine sgsD [.det (GV ⟨a,n4,false⟩),.det (.bool (decide (mul finv ordR (.aff a n4)=.inf))),.det (.bool (!decide (mul finv ordR (.aff a n4)=.inf)))] [0,1,2] [0,1,3] (fun L d=>D d 0 2++([L0.p 0]++(D d 3 5++([L3.p 0]++(D d 9 59++([.bool (!decide (mul finv ordR (.aff a n4)=.inf))]++D d 69 2)))))) (fun L=>[(L0.b 0,GC ⟨0,0,false⟩),(kb1b1,BC f 48),(L3.b 0,GC ⟨a,n4,false⟩),(L6.b 14,FC n4)]) hp11 ⟨
     oL 2 0 rG,oH (v:=.bool (decide (mul finv ordR (.aff a n4)=.inf))) (vs:=#[GV ⟨a,n4,false⟩]) (fun w _ _=>ref5In1 R (.aff a n4) w (on_rt (by rw [o3,o2,o1]) h1q o4)),
     oN,
     trivial⟩ (fun L11 d11 w12 hp12=>?_)
    rcases Bool.eq_false_or_eq_true (decide (mul finv ordR (.aff a n4)=.inf)) with h4q | h4q
    ·skip
     refine cond_f (nt_t h4q) ?_
     refine skips ?_
     refine k17 _ _ ?_
     refine sgsD [.det (GV ⟨a,n4,false⟩),.store (.base 0) 0 (GC ⟨a,n4,false⟩) (GC ⟨a,n4,false⟩),.det (.int .i64 0)] [0,1,2] [0,1,3] (fun L d=>D d 0 2++([L0.p 0,.int .i64 0]++D d 4 67)) (fun L=>[(L0.b 0,GC ⟨a,n4,false⟩),(kb1b1,BC f 48),(L3.b 0,GC ⟨a,n4,false⟩),(L6.b 14,FC n4)]) hp12 ⟨
      oL 2 0 rG,oT rG,oA,
      trivial⟩ (fun L12 d12 w13 hp13=>?_)
     refine wp_ret ?_
     refine bodyPost_ret (v:=.tuple #[GV ⟨a,n4,false⟩,.int .i64 0]) ?_ rfl ?_
     ·exact rct rG rfl (by kernel_rfl) (by kernel_rfl) (hp13.bound 0 rfl).2
     ·exact ⟨fin5 h1q h2q h3q h4q,hp13.bel⟩
    ·skip
     refine cond_t (nt_f h4q) ?_
     refine sgsD [.det (GV ⟨0,0,false⟩),.store (.base 0) 0 (GC ⟨0,0,false⟩) (GC ⟨0,0,false⟩),.det (.int .i64 6)] [0,1,2] [0,1,3] (fun L d=>D d 0 2++([L0.p 0,.int .i64 6]++D d 4 67)) (fun L=>[(L0.b 0,GC ⟨0,0,false⟩),(kb1b1,BC f 48),(L3.b 0,GC ⟨a,n4,false⟩),(L6.b 14,FC n4)]) hp12 ⟨
      oD buildGn,oT rG,oA,
      trivial⟩ (fun L12 d12 w13 hp13=>?_)
     refine wp_ret ?_
     refine bodyPost_ret (v:=.tuple #[GV ⟨0,0,false⟩,.int .i64 6]) ?_ rfl ?_
     ·exact rct rG rfl (by kernel_rfl) (by kernel_rfl) (hp13.bound 0 rfl).2
     ·exact ⟨fin6 h1q h2q h3q h4q,hp13.bel⟩
 ·skip
  refine cond_t (nt_f h1q) ?_
  refine sgsD [.det (GV ⟨0,0,false⟩),.store (.base 0) 0 (GC ⟨0,0,false⟩) (GC ⟨0,0,false⟩),.det (.int .i64 5)] [0,1,2] [0,1,3] (fun L d=>D d 0 2++([L0.p 0,.int .i64 5]++D d 4 67)) (fun L=>[(L0.b 0,GC ⟨0,0,false⟩),(kb1b1,BC f 48),(L3.b 0,GC ⟨a,0,false⟩),(L6.b 14,FC n4)]) hp8 ⟨
   oD buildGn,oT rG,oA,
   trivial⟩ (fun L8 d8 w9 hp9=>?_)
  refine wp_ret ?_
  refine bodyPost_ret (v:=.tuple #[GV ⟨0,0,false⟩,.int .i64 5]) ?_ rfl ?_
  ·exact rct rG rfl (by kernel_rfl) (by kernel_rfl) (hp9.bound 0 rfl).2
  ·exact ⟨fin7 h1q,hp9.bel⟩
theorem ref5Take1e2 (R:RefK) (p:Option Addr) (n c:Nat) (w:World) (hH:∀ x,Below w.heap.size w x→Calls Tryz.prog 57 #[.slice p n c,.int .i64 48] x (Ret (.tuple #[.slice none 0 0,.bool false,.bool false,.int .i64 2]) x)):Calls Tryz.prog 24 #[.slice p n c] w (Ret (tkE 2) w):=by
 have hp0:=Heap.start w
 go_enter Tryz.func24,Tryz.ntmps24
 refine sgsD [.alloc (GC ⟨0,0,false⟩),.det (.int .i64 0)] [0,1] [0,0] (fun L d=>[.slice p n c,d 1,L.p 0]++D d 3 68) (fun L=>[(L.b 0,GC ⟨0,0,false⟩)]) hp0 ⟨
  oZ rG,oA,
  trivial⟩ (fun L0 _ w1 hp1=>?_)
 refine sgsD [.det (.slice p n c),.det (.tuple #[.slice none 0 0,.bool false,.bool false,.int .i64 2]),.det (.tuple #[.slice none 0 0,.bool false,.bool false,.int .i64 2]),.det (.slice none 0 0),.det (.bool false),.det (.bool false),.det (.int .i64 2),.det (.slice none 0 0),.det (.bool false),.det (.bool false),.det (.int .i64 2)] (nn 11) [0,1,3,7,7,7,7,15,159,447,1023] (fun L d=>D d 0 2++([L0.p 0]++(D d 3 2++([.bool false,d 6,.int .i64 2]++D d 8 63)))) (fun L=>[(L0.b 0,GC ⟨0,0,false⟩)]) hp1 ⟨
  oM,oH (v:=.tuple #[.slice none 0 0,.bool false,.bool false,.int .i64 2]) (vs:=#[.slice p n c,.int .i64 48]) (fun w hb0 _=>hH w (Below.trans (Below.refl _ _) hb0)),
  oM,oX,oX,oX,oX,oA,oA,oA,oA,
  trivial⟩ (fun L1 _ w2 hp2=>?_)
 refine wp_seq_k (fun K3 k3=>?_)
 refine sgsD [.det (.int .i64 2),.det (.bool true),.det (.bool true),.det undef,.det (.bool true)] (nn 5) [0,1,3,7,15] (fun L d=>D d 0 2++([L0.p 0]++(D d 3 2++([.bool false,d 6,.int .i64 2]++(D d 8 14++([.bool true]++D d 23 48)))))) (fun L=>[(L0.b 0,GC ⟨0,0,false⟩)]) hp2 ⟨
  oM,oJ .i64 .i64 2 0 (h:=fun w=>(neqI _ _ _ _ w).trans rfl),oM,oS,oP,
  trivial⟩ (fun L2 _ w3 hp3=>?_)
 refine cT ?_
 refine sgsD [.det (.bool false),.det (GV ⟨0,0,false⟩),.det (.int .i64 2),.store (.base 0) 0 (GC ⟨0,0,false⟩) (GC ⟨0,0,false⟩),.det (.int .i64 2)] (nn 5) [0,1,0,3,15] (fun L d=>D d 0 2++([L0.p 0,.int .i64 2]++D d 4 67)) (fun L=>[(L0.b 0,GC ⟨0,0,false⟩)]) hp3 ⟨
  oM,oD (buildGi false),oM,oT rG,oA,
  trivial⟩ (fun L3 _ w4 hp4=>?_)
 refine wp_ret ?_
 refine bodyPost_ret (v:=.tuple #[GV ⟨0,0,false⟩,.int .i64 2]) ?_ rfl ?_
 ·exact rct rG rfl (by kernel_rfl) (by kernel_rfl) (hp4.bound 0 rfl).2
 ·exact ⟨rfl,hp4.bel⟩
theorem ref5Take1e8 (R:RefK) (p:Option Addr) (n c:Nat) (w:World) (hH:∀ x,Below w.heap.size w x→Calls Tryz.prog 57 #[.slice p n c,.int .i64 48] x (Ret (.tuple #[.slice none 0 0,.bool false,.bool false,.int .i64 8]) x)):Calls Tryz.prog 24 #[.slice p n c] w (Ret (tkE 8) w):=by
 have hp0:=Heap.start w
 go_enter Tryz.func24,Tryz.ntmps24
 refine sgsD [.alloc (GC ⟨0,0,false⟩),.det (.int .i64 0)] [0,1] [0,0] (fun L d=>[.slice p n c,d 1,L.p 0]++D d 3 68) (fun L=>[(L.b 0,GC ⟨0,0,false⟩)]) hp0 ⟨
  oZ rG,oA,
  trivial⟩ (fun L0 _ w1 hp1=>?_)
 refine sgsD [.det (.slice p n c),.det (.tuple #[.slice none 0 0,.bool false,.bool false,.int .i64 8]),.det (.tuple #[.slice none 0 0,.bool false,.bool false,.int .i64 8]),.det (.slice none 0 0),.det (.bool false),.det (.bool false),.det (.int .i64 8),.det (.slice none 0 0),.det (.bool false),.det (.bool false),.det (.int .i64 8)] (nn 11) [0,1,3,7,7,7,7,15,159,447,1023] (fun L d=>D d 0 2++([L0.p 0]++(D d 3 2++([.bool false,d 6,.int .i64 8]++D d 8 63)))) (fun L=>[(L0.b 0,GC ⟨0,0,false⟩)]) hp1 ⟨
  oM,oH (v:=.tuple #[.slice none 0 0,.bool false,.bool false,.int .i64 8]) (vs:=#[.slice p n c,.int .i64 48]) (fun w hb0 _=>hH w (Below.trans (Below.refl _ _) hb0)),
  oM,oX,oX,oX,oX,oA,oA,oA,oA,
  trivial⟩ (fun L1 _ w2 hp2=>?_)
 refine wp_seq_k (fun K3 k3=>?_)
 refine sgsD [.det (.int .i64 8),.det (.bool true),.det (.bool true),.det undef,.det (.bool true)] (nn 5) [0,1,3,7,15] (fun L d=>D d 0 2++([L0.p 0]++(D d 3 2++([.bool false,d 6,.int .i64 8]++(D d 8 14++([.bool true]++D d 23 48)))))) (fun L=>[(L0.b 0,GC ⟨0,0,false⟩)]) hp2 ⟨
  oM,oJ .i64 .i64 8 0 (h:=fun w=>(neqI _ _ _ _ w).trans rfl),oM,oS,oP,
  trivial⟩ (fun L2 _ w3 hp3=>?_)
 refine cT ?_
 refine sgsD [.det (.bool false),.det (GV ⟨0,0,false⟩),.det (.int .i64 8),.store (.base 0) 0 (GC ⟨0,0,false⟩) (GC ⟨0,0,false⟩),.det (.int .i64 8)] (nn 5) [0,1,0,3,15] (fun L d=>D d 0 2++([L0.p 0,.int .i64 8]++D d 4 67)) (fun L=>[(L0.b 0,GC ⟨0,0,false⟩)]) hp3 ⟨
  oM,oD (buildGi false),oM,oT rG,oA,
  trivial⟩ (fun L3 _ w4 hp4=>?_)
 refine wp_ret ?_
 refine bodyPost_ret (v:=.tuple #[GV ⟨0,0,false⟩,.int .i64 8]) ?_ rfl ?_
 ·exact rct rG rfl (by kernel_rfl) (by kernel_rfl) (hp4.bound 0 rfl).2
 ·exact ⟨rfl,hp4.bel⟩
theorem ref5Take1e3 (R:RefK) (p:Option Addr) (n c:Nat) (w:World) (hH:∀ x,Below w.heap.size w x→Calls Tryz.prog 57 #[.slice p n c,.int .i64 48] x (Ret (.tuple #[.slice none 0 0,.bool false,.bool false,.int .i64 3]) x)):Calls Tryz.prog 24 #[.slice p n c] w (Ret (tkE 3) w):=by
 have hp0:=Heap.start w
 go_enter Tryz.func24,Tryz.ntmps24
 refine sgsD [.alloc (GC ⟨0,0,false⟩),.det (.int .i64 0)] [0,1] [0,0] (fun L d=>[.slice p n c,d 1,L.p 0]++D d 3 68) (fun L=>[(L.b 0,GC ⟨0,0,false⟩)]) hp0 ⟨
  oZ rG,oA,
  trivial⟩ (fun L0 _ w1 hp1=>?_)
 refine sgsD [.det (.slice p n c),.det (.tuple #[.slice none 0 0,.bool false,.bool false,.int .i64 3]),.det (.tuple #[.slice none 0 0,.bool false,.bool false,.int .i64 3]),.det (.slice none 0 0),.det (.bool false),.det (.bool false),.det (.int .i64 3),.det (.slice none 0 0),.det (.bool false),.det (.bool false),.det (.int .i64 3)] (nn 11) [0,1,3,7,7,7,7,15,159,447,1023] (fun L d=>D d 0 2++([L0.p 0]++(D d 3 2++([.bool false,d 6,.int .i64 3]++D d 8 63)))) (fun L=>[(L0.b 0,GC ⟨0,0,false⟩)]) hp1 ⟨
  oM,oH (v:=.tuple #[.slice none 0 0,.bool false,.bool false,.int .i64 3]) (vs:=#[.slice p n c,.int .i64 48]) (fun w hb0 _=>hH w (Below.trans (Below.refl _ _) hb0)),
  oM,oX,oX,oX,oX,oA,oA,oA,oA,
  trivial⟩ (fun L1 _ w2 hp2=>?_)
 refine wp_seq_k (fun K3 k3=>?_)
 refine sgsD [.det (.int .i64 3),.det (.bool true),.det (.bool true),.det undef,.det (.bool true)] (nn 5) [0,1,3,7,15] (fun L d=>D d 0 2++([L0.p 0]++(D d 3 2++([.bool false,d 6,.int .i64 3]++(D d 8 14++([.bool true]++D d 23 48)))))) (fun L=>[(L0.b 0,GC ⟨0,0,false⟩)]) hp2 ⟨
  oM,oJ .i64 .i64 3 0 (h:=fun w=>(neqI _ _ _ _ w).trans rfl),oM,oS,oP,
  trivial⟩ (fun L2 _ w3 hp3=>?_)
 refine cT ?_
 refine sgsD [.det (.bool false),.det (GV ⟨0,0,false⟩),.det (.int .i64 3),.store (.base 0) 0 (GC ⟨0,0,false⟩) (GC ⟨0,0,false⟩),.det (.int .i64 3)] (nn 5) [0,1,0,3,15] (fun L d=>D d 0 2++([L0.p 0,.int .i64 3]++D d 4 67)) (fun L=>[(L0.b 0,GC ⟨0,0,false⟩)]) hp3 ⟨
  oM,oD (buildGi false),oM,oT rG,oA,
  trivial⟩ (fun L3 _ w4 hp4=>?_)
 refine wp_ret ?_
 refine bodyPost_ret (v:=.tuple #[GV ⟨0,0,false⟩,.int .i64 3]) ?_ rfl ?_
 ·exact rct rG rfl (by kernel_rfl) (by kernel_rfl) (hp4.bound 0 rfl).2
 ·exact ⟨rfl,hp4.bel⟩
theorem ref5Take1i (R:RefK) (p:Option Addr) (n c:Nat) (w:World) (hH:∀ x,Below w.heap.size w x→Calls Tryz.prog 57 #[.slice p n c,.int .i64 48] x (Ret (.tuple #[.slice none 0 0,.bool true,.bool false,.int .i64 0]) x)):Calls Tryz.prog 24 #[.slice p n c] w (Ret (.tuple #[GV ⟨0,0,true⟩,.int .i64 0]) w):=by
 have hp0:=Heap.start w
 go_enter Tryz.func24,Tryz.ntmps24
 refine sgsD [.alloc (GC ⟨0,0,false⟩),.det (.int .i64 0)] [0,1] [0,0] (fun L d=>[.slice p n c,d 1,L.p 0]++D d 3 68) (fun L=>[(L.b 0,GC ⟨0,0,false⟩)]) hp0 ⟨
  oZ rG,oA,
  trivial⟩ (fun L0 _ w1 hp1=>?_)
 refine sgsD [.det (.slice p n c),.det (.tuple #[.slice none 0 0,.bool true,.bool false,.int .i64 0]),.det (.tuple #[.slice none 0 0,.bool true,.bool false,.int .i64 0]),.det (.slice none 0 0),.det (.bool true),.det (.bool false),.det (.int .i64 0),.det (.slice none 0 0),.det (.bool true),.det (.bool false),.det (.int .i64 0)] (nn 11) [0,1,3,7,7,7,7,15,159,447,1023] (fun L d=>D d 0 2++([L0.p 0]++(D d 3 2++([.bool true,d 6,.int .i64 0]++D d 8 63)))) (fun L=>[(L0.b 0,GC ⟨0,0,false⟩)]) hp1 ⟨
  oM,oH (v:=.tuple #[.slice none 0 0,.bool true,.bool false,.int .i64 0]) (vs:=#[.slice p n c,.int .i64 48]) (fun w hb0 _=>hH w (Below.trans (Below.refl _ _) hb0)),
  oM,oX,oX,oX,oX,oA,oA,oA,oA,
  trivial⟩ (fun L1 _ w2 hp2=>?_)
 refine wp_seq_k (fun K3 k3=>?_)
 refine sgsD [.det (.int .i64 0),.det (.bool false),.det (.bool false),.det (.bool true),.det (.bool true)] (nn 5) [0,1,3,7,15] (fun L d=>D d 0 2++([L0.p 0]++(D d 3 2++([.bool true,d 6,.int .i64 0]++(D d 8 14++([.bool true]++D d 23 48)))))) (fun L=>[(L0.b 0,GC ⟨0,0,false⟩)]) hp2 ⟨
  oM,oJ .i64 .i64 0 0 (h:=fun w=>(neqI _ _ _ _ w).trans rfl),oM,oM,oP,
  trivial⟩ (fun L2 _ w3 hp3=>?_)
 refine cT ?_
 refine sgsD [.det (.bool true),.det (GV ⟨0,0,true⟩),.det (.int .i64 0),.store (.base 0) 0 (GC ⟨0,0,true⟩) (GC ⟨0,0,true⟩),.det (.int .i64 0)] (nn 5) [0,1,0,3,15] (fun L d=>D d 0 2++([L0.p 0,.int .i64 0]++D d 4 67)) (fun L=>[(L0.b 0,GC ⟨0,0,true⟩)]) hp3 ⟨
  oM,oD (buildGi true),oM,oT rG,oA,
  trivial⟩ (fun L3 _ w4 hp4=>?_)
 refine wp_ret ?_
 refine bodyPost_ret (v:=.tuple #[GV ⟨0,0,true⟩,.int .i64 0]) ?_ rfl ?_
 ·exact rct rG rfl (by kernel_rfl) (by kernel_rfl) (hp4.bound 0 rfl).2
 ·exact ⟨rfl,hp4.bel⟩
theorem ref5Take1b (R:RefK) (p:Option Addr) (c:Nat) (g f:Nat→Int) (gr:Bool) (w:World) (hb:AtK .u8 w p 48 g) (hH:∀ w,AtK .u8 w p 48 g→Calls Tryz.prog 57 #[.slice p 48 c,.int .i64 48] w (RetT (fun s=>.tuple #[s,.bool false,.bool gr,.int .i64 0]) f 48 w)) (rf:∀ j,j<48→0≤f j∧f j<256) (ha:RI≤bv f 48):Calls Tryz.prog 24 #[.slice p 48 c] w (Ret (tkE 4) w):=by
 have fin0:Ending.returned (.tuple #[GV ⟨0,0,false⟩,.int .i64 4])=Ending.returned (tkE 4):=by subst_vars;rfl
 have hp0:=Heap.start w
 go_enter Tryz.func24,Tryz.ntmps24
 refine sgsD [.alloc (GC ⟨0,0,false⟩),.det (.int .i64 0)] [0,1] [0,0] (fun L d=>[.slice p 48 c,d 1,L.p 0]++D d 3 68) (fun L=>[(L.b 0,GC ⟨0,0,false⟩)]) hp0 ⟨
  oZ rG,oA,
  trivial⟩ (fun L0 d0 w1 hp1=>?_)
 refine wp_seq_k (fun K2 k2=>?_)
 refine gsA [.det (.slice p 48 c),.any (isT (fun s=>.tuple #[s,.bool false,.bool gr,.int .i64 0]) w.heap.size [L0.b 0] f 48),.detV 1 (fun v=>v),.detV 1 (tupAt 0),.det (.bool false),.det (.bool gr),.det (.int .i64 0),.detV 1 (tupAt 0),.det (.bool false),.det (.bool gr),.det (.int .i64 0)] (nn 11) [0,1,3,7,7,7,7,15,159,447,1023] (fun L=>[.slice p 48 c,d0 1,L0.p 0,d0 3,tupAt 0 (L.v 1),.bool false,.bool gr,.int .i64 0]++(D d0 8 3++([L.v 1,.slice p 48 c,L.v 1,tupAt 0 (L.v 1),.bool false,.bool gr,.int .i64 0]++D d0 18 53))) (fun L=>[(L0.b 0,GC ⟨0,0,false⟩)]) hp1 ⟨
  oM,oY (fun L=>#[.slice p 48 c,.int .i64 48]) (fun _ _ _ h hb=>h.stay hb) (fun L w hs=>newT hs [L0.b 0] (hH w (AtK.below hb hs.bel))),oMV,oXS 1 (fun _=>rfl),
  oXT 1 (fun _=>rfl),oXT 1 (fun _=>rfl),oXT 1 (fun _=>rfl),oAX,oA,oA,oA,
  trivial⟩ (fun L1 w2 hp2 ha2=>?_)
 obtain ⟨_,eb1b1,kb1b1,cb1b1,rfl,lb1b1,mb1b1,qb1b1,ub1b1,xb1b1⟩:=AnyF.at ha2 (j:=1) rfl rfl
 rw [eb1b1]
 have hp21b1:=Heap.add hp2 qb1b1 ub1b1 xb1b1
 refine k2 _ _ ?_
 refine wp_seq_k (fun K3 k3=>?_)
 refine sgsD [.det (.int .i64 0),.det (.bool false),.det (.bool false),.det (.bool false),.det (.bool false)] (nn 5) [0,1,3,7,15] (fun L d=>D d 0 2++([L0.p 0,d 3,.slice (some ⟨kb1b1,0,none⟩) 48 cb1b1]++(D d 5 17++([.bool false]++D d 23 48)))) (fun L=>[(L0.b 0,GC ⟨0,0,false⟩),(kb1b1,BC f 48)]) hp21b1 ⟨
  oM,oJ .i64 .i64 0 0 (h:=fun w=>(neqI _ _ _ _ w).trans rfl),oM,oM,oP,
  trivial⟩ (fun L2 d2 w3 hp3=>?_)
 refine cfk (k3 _ _ ?_)
 refine sgsD [.alloc (GC ⟨0,0,false⟩)] [0] [0] (fun L d=>D d 0 2++([L0.p 0,d 3,.slice (some ⟨kb1b1,0,none⟩) 48 cb1b1]++(D d 5 3++([L.p 0]++D d 9 62)))) (fun L=>[(L0.b 0,GC ⟨0,0,false⟩),(kb1b1,BC f 48),(L.b 0,GC ⟨0,0,false⟩)]) hp3 ⟨
  oZ rG,
  trivial⟩ (fun L3 d3 w4 hp4=>?_)
 refine sgsD [.det (.slice (some ⟨kb1b1,0,none⟩) 48 cb1b1),.det (.tuple #[FV 0,.int .i64 4]),.det (.tuple #[FV 0,.int .i64 4]),.det (FV 0),.det (.int .i64 4),.det (L3.p 0),.store (.base 2) 0 (FC 0) (GC ⟨0,0,false⟩),.det (.int .i64 4)] (nn 8) [0,1,3,7,7,15,47,127] (fun L d=>D d 0 2++([L0.p 0]++(D d 3 4++([.int .i64 4]++D d 8 63)))) (fun L=>[(L0.b 0,GC ⟨0,0,false⟩),(kb1b1,BC f 48),(L3.b 0,GC ⟨0,0,false⟩)]) hp4 ⟨
  oM,oCS (fun L=>#[.slice (some ⟨kb1b1,0,none⟩) 48 cb1b1]) (fun L w hs=>refTakeBig f _ _ w (box_at (seen_at hs (k:=1) rfl)) rf ha),oM,oX,oX,oF fG0,
  oT rF,oA,
  trivial⟩ (fun L4 d4 w5 hp5=>?_)
 refine wp_seq_k (fun K7 k7=>?_)
 refine sgsD [.det (.int .i64 4),.det (.bool true)] [0,1] [0,1] (fun L d=>D d 0 2++([L0.p 0]++(D d 3 4++([.int .i64 4]++(D d 8 25++([.bool true]++D d 34 37)))))) (fun L=>[(L0.b 0,GC ⟨0,0,false⟩),(kb1b1,BC f 48),(L3.b 0,GC ⟨0,0,false⟩)]) hp5 ⟨
  oM,oJ .i64 .i64 4 0 (h:=fun w=>(neqI _ _ _ _ w).trans rfl),
  trivial⟩ (fun L5 d5 w6 hp6=>?_)
 refine cT ?_
 refine sgsD [.det (GV ⟨0,0,false⟩),.det (.int .i64 4),.store (.base 0) 0 (GC ⟨0,0,false⟩) (GC ⟨0,0,false⟩),.det (.int .i64 4)] [0,1,2,3] [0,0,1,7] (fun L d=>D d 0 2++([L0.p 0,.int .i64 4]++D d 4 67)) (fun L=>[(L0.b 0,GC ⟨0,0,false⟩),(kb1b1,BC f 48),(L3.b 0,GC ⟨0,0,false⟩)]) hp6 ⟨
  oD buildGn,oM,oT rG,oA,
  trivial⟩ (fun L6 d6 w7 hp7=>?_)
 refine wp_ret ?_
 refine bodyPost_ret (v:=.tuple #[GV ⟨0,0,false⟩,.int .i64 4]) ?_ rfl ?_
 ·exact rct rG rfl (by kernel_rfl) (by kernel_rfl) (hp7.bound 0 rfl).2
 ·exact ⟨fin0 ,hp7.bel⟩
theorem ref5Take1 (R:RefK) (p:Option Addr) (n c:Nat) (g:Nat→Int) (w:World) (hb:AtK .u8 w p n g) (rg:∀ j,j<n→0≤g j∧g j<256):Calls Tryz.prog 24 #[.slice p n c] w (Ret (tkA g n) w):=by
 unfold tkA
 by_cases h1:n<48
 ·rw [if_pos h1];exact ref5Take1e2 R p n c w fun x _=>ref5hdShort p n c 48 x h1
 rw [if_neg h1]
 by_cases h2:48<n
 ·rw [if_pos h2];exact ref5Take1e8 R p n c w fun x _=>ref5hdLong p n c 48 x h2
 rw [if_neg h2]
 obtain rfl:n=48:=by omega
 have r0:=(rg 0 (by decide)).1
 by_cases hl:g 0 / 32<4
 ·rw [if_pos hl];exact ref5Take1e3 R p 48 c w fun x hx=>ref5hdLow 48 p c g x (by decide) (by decide) (AtK.below hb hx) r0 hl
 rw [if_neg hl]
 by_cases h6:6≤g 0 / 32
 ·rw [if_pos h6]
  have hB:=fun (x:World) (hx:Below w.heap.size w x)=>ref5hdBig 48 p c g x (by decide) (by decide) (AtK.below hb hx) r0 hl h6
  cases hz:hdz g 48 with
  | false=>rw [hz] at hB;exact ref5Take1e3 R p 48 c w hB
  | true=>rw [hz] at hB;exact ref5Take1i R p 48 c w hB
 rw [if_neg h6]
 have rf:=su_rg rg (by decide)
 have hH:=fun (x:World) (hx:AtK .u8 x p 48 g)=>ref5hdOk 48 p c g x (by decide) (by decide) hx r0 hl h6
 by_cases ha:bv (su g 0 (g 0%32)) 48<RI
 ·rw [if_pos ha];exact ref5Take1ok R p c g _ _ _ w hb hH rf (ofB_val rf ha)
 ·rw [if_neg ha];exact ref5Take1b R p c g _ _ w hb hH rf (by omega)
end Go.Proofs.YtmibajbpimcfnaaGreatDoor.fpn
