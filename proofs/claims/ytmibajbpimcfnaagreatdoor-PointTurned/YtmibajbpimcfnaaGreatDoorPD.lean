/- Texts laid together. -/
import Derived.Test.YtmibajbpimcfnaaGreatDoorGO
import Derived.Test.YtmibajbpimcfnaaGreatDoorPA
import Derived.Test.YtmibajbpimcfnaaGreatDoorGB
import Derived.Test.YtmibajbpimcfnaaGreatDoorQA
set_option linter.unusedVariables false
set_option linter.unusedSimpArgs false
set_option maxRecDepth 4000
set_option maxHeartbeats 4000000
/- Scalars are held against 0. -/
namespace Go.Proofs.YtmibajbpimcfnaaGreatDoor.fpn
open Go.RowKit Pl
theorem eqR4 (e:Nat) (a b c d a' b' c' d':Int) (w:World):(Op.equalIn (e+2) 24 (.agg #[.int .u64 a,.int .u64 b,.int .u64 c,.int .u64 d]) (.agg #[.int .u64 a',.int .u64 b',.int .u64 c',.int .u64 d'])).run Tryz.prog w=.ok (a == a' && (b == b' && (c == c' && d == d'))) w:=by
 have u3:=Tryz.underlying22
 have a3:=Tryz.isAgg22
 have z3:=Tryz.sizeOf22
 have hE:∀ (x y:Int) (w:World),(Op.equalIn (e+1) 22 (.int .u64 x) (.int .u64 y)).run Tryz.prog w=.ok (x == y) w:=fun x y w=>by
  rw [Op.equalIn.eq_def]
  simp [Sem.run_bind,run_underlying Tryz.underlying22]
 rw [show e+2=(e+1)+1 from rfl,Op.equalIn.eq_def]
 simp only [Sem.run_bind,run_underlying Tryz.underlying24,Result.andThen_ok]
 simp only [Std.Legacy.Range.forIn_eq_forIn_range',Std.Legacy.Range.size,Nat.sub_zero,Nat.add_sub_cancel,Nat.div_one,List.range'_succ,List.range'_zero,List.forIn_cons,List.forIn_nil]
 go_simp
 by_cases h1:a=a'
 ·by_cases h2:b=b'
  ·by_cases h3:c=c'
   ·by_cases h4:d=d'<;>simp [h1,h2,h3,h4]
   ·simp [h1,h2,h3]
  ·simp [h1,h2]
 ·simp [h1]
theorem guardR (op:BinOp) (x y:Operand) (cs ds:Array Value) (w:World):(eqGuard op 24 x y (.agg cs) (.agg ds)).run Tryz.prog w=.ok () w:=by
 unfold eqGuard
 cases op<;>simp [Sem.run_bind,run_underlying Tryz.underlying24]
theorem lb_zero {k:Nat} (hk:k<2^256) (h0:lb k 0=0) (h1:lb k 1=0) (h2:lb k 2=0) (h3:lb k 3=0):k=0:=by
 have e:val (lb k) 4=0:=by
  rw [show val (lb k) 4=val (fun _=>(0:Int)) 4 from val_congr fun i hi=>by
   rcases (show i=0∨i=1∨i=2∨i=3 by omega) with rfl | rfl | rfl | rfl
   ·exact h0
   ·exact h1
   ·exact h2
   ·exact h3]
  rfl
 rw [lbR hk] at e
 omega
theorem eqlR0 {k:Nat} (hk:k<2^256) (b:Bool) (h:decide (k=0)=b) (w:World):(binOp .eql 24 (RV k) (RV 0)).run Tryz.prog w=.ok (.bool b) w:=by
 have:=eqR4 9998 (lb k 0) (lb k 1) (lb k 2) (lb k 3) (lb 0 0) (lb 0 1) (lb 0 2) (lb 0 3) w
 have e:(lb k 0 == lb 0 0 && (lb k 1 == lb 0 1 && (lb k 2 == lb 0 2 && lb k 3 == lb 0 3)))=b:=by
  rw [← h]
  by_cases h0:k=0
  ·subst h0;simp
  ·rw [decide_eq_false h0]
   have z:∀ i,i<4→lb 0 i=0:=fun i _=>by unfold lb;rw [Nat.zero_div];rfl
   rw [z 0 (by decide),z 1 (by decide),z 2 (by decide),z 3 (by decide)]
   by_cases e0:lb k 0=0
   ·by_cases e1:lb k 1=0
    ·by_cases e2:lb k 2=0
     ·by_cases e3:lb k 3=0
      ·exact absurd (lb_zero hk e0 e1 e2 e3) h0
      ·simp [e0,e1,e2,e3]
     ·simp [e0,e1,e2]
    ·simp [e0,e1]
   ·simp [e0]
 rw [e] at this
 have this':(Op.equalIn 10000 24 (RV k) (RV 0)).run Tryz.prog w=.ok b w:=this
 unfold RV at *
 simp [binOp,Sem.run_bind,Op.equal,Op.maxDepth,this']
end Go.Proofs.YtmibajbpimcfnaaGreatDoor.fpn
/- Points of a prime order: which multiples are not Inf, no Y is 0; the opposite's bytes. -/
namespace Go.Proofs.YtmibajbpimcfnaaGreatDoor.fpn
open Go.RowKit Pl EC
theorem no_small1 {P:Pt F} (hP:On (4:F) P) {r k:Nat} (hr:Pr r) (hI:mul finv r P=.inf) (h1:P≠.inf) (hk:0<k) (hkr:k<r):mul finv k P≠.inf:=fun h=>by
 have hf:=fermat hr (Nat.not_dvd_of_pos_of_lt hk hkr)
 have h2:mul finv (k^(r-1)) P=.inf:=by
  obtain ⟨m,hm⟩:∃ m,r-1=m+1:=⟨r-2,by have:=hr.1;omega⟩
  rw [hm,Nat.pow_succ,Nat.mul_comm,mul_mul crv1 hP,h];exact mul_inf _
 have h3:=mul_order crv1 hP hI (k^(r-1))
 rw [hf,mul_one,h2] at h3
 exact h1 h3
theorem y_ne1 {x y:F} {r:Nat} (hP:On (4:F) (.aff x y)) (hI:mul finv r (.aff x y)=.inf) (hodd:r%2=1):y≠0:=fun h=>by
 subst h
 have hn:neg (.aff x 0:Pt F)=.aff x 0:=by
  show Pt.aff x (-0)=.aff x 0
  rw [show (-0:F)=0 from Rn.neg_zero]
 have h2:mul finv 2 (.aff x 0)=.inf:=by
  have:=mul_two crv1 hP 1
  rw [Nat.mul_one,mul_one] at this
  rw [this]
  have e:=add_neg (iv:=finv) (P:=(.aff x 0:Pt F))
  rw [hn] at e;exact e
 have h3:=mul_order crv1 hP h2 r
 rw [hodd,mul_one,hI] at h3
 cases h3
theorem in_neg1 {P:Pt F} {r:Nat} (hP:On (4:F) P) (hI:mul finv r P=.inf):mul finv r (neg P)=.inf:=by
 have h:=mul_sum crv1 hP (neg_on hP) r
 rw [add_neg,mul_inf,hI] at h
 exact h.symm
theorem no_small2 {P:Pt F2} (hP:On b2 P) {r k:Nat} (hr:Pr r) (hI:mul F2.inv r P=.inf) (h1:P≠.inf) (hk:0<k) (hkr:k<r):mul F2.inv k P≠.inf:=fun h=>by
 have hf:=fermat hr (Nat.not_dvd_of_pos_of_lt hk hkr)
 have h2:mul F2.inv (k^(r-1)) P=.inf:=by
  obtain ⟨m,hm⟩:∃ m,r-1=m+1:=⟨r-2,by have:=hr.1;omega⟩
  rw [hm,Nat.pow_succ,Nat.mul_comm,mul_mul crv2 hP,h];exact mul_inf _
 have h3:=mul_order crv2 hP hI (k^(r-1))
 rw [hf,mul_one,h2] at h3
 exact h1 h3
theorem y_ne2 {x y:F2} {r:Nat} (hP:On b2 (.aff x y)) (hI:mul F2.inv r (.aff x y)=.inf) (hodd:r%2=1):y≠0:=fun h=>by
 subst h
 have hn:neg (.aff x 0:Pt F2)=.aff x 0:=by
  show Pt.aff x (-0)=.aff x 0
  rw [show (-0:F2)=0 from Rn.neg_zero]
 have h2:mul F2.inv 2 (.aff x 0)=.inf:=by
  have:=mul_two crv2 hP 1
  rw [Nat.mul_one,mul_one] at this
  rw [this]
  have e:=add_neg (iv:=F2.inv) (P:=(.aff x 0:Pt F2))
  rw [hn] at e;exact e
 have h3:=mul_order crv2 hP h2 r
 rw [hodd,mul_one,hI] at h3
 cases h3
theorem in_neg2 {P:Pt F2} {r:Nat} (hP:On b2 P) (hI:mul F2.inv r P=.inf):mul F2.inv r (neg P)=.inf:=by
 have h:=mul_sum crv2 hP (neg_on hP) r
 rw [add_neg,mul_inf,hI] at h
 exact h.symm
theorem xor_tab:∀ a:Fin 32,bits .xor .u8 ((a.val:Int)+160) 32=(a.val:Int)+128∧bits .xor .u8 ((a.val:Int)+128) 32=(a.val:Int)+160:=by decide +kernel
theorem xor_top (a:Int) (h:0≤a∧a<32):bits .xor .u8 (a+160) 32=a+128∧bits .xor .u8 (a+128) 32=a+160:=by
 have:=xor_tab ⟨a.toNat,by omega⟩
 rwa [show (((⟨a.toNat,by omega⟩:Fin 32).val:Nat):Int)=a from Int.toNat_of_nonneg h.1] at this
theorem ptx_flip {x y:F} (hy:y≠0):bits .xor .u8 (ptx (.aff x y) 0) 32=ptx (neg (.aff x y)) 0∧su (ptx (.aff x y)) 0 (ptx (neg (.aff x y)) 0)=ptx (neg (.aff x y)):=by
 have e0:∀ y:F,ptx (.aff x y) 0=pb x 0+(bif great y then 160 else 128):=fun y=>su_at _ _ _
 refine ⟨?_,funext fun j=>?_⟩
 ·show bits .xor .u8 (ptx (.aff x y) 0) 32=ptx (.aff x (-y)) 0
  rw [e0,e0,great_neg hy]
  have:=xor_top _ (pb_top x)
  cases great y
  ·exact this.2
  ·exact this.1
 ·by_cases h:j=0
  ·subst h;rw [su_at]
  ·rw [su_ne h]
   show su _ 0 _ j=su _ 0 _ j
   rw [su_ne h,su_ne h]
theorem ptx2_flip {x y:F2} (hy:y≠0):bits .xor .u8 (T2.ptx2 (.aff x y) 0) 32=T2.ptx2 (neg (.aff x y)) 0∧su (T2.ptx2 (.aff x y)) 0 (T2.ptx2 (neg (.aff x y)) 0)=T2.ptx2 (neg (.aff x y)):=by
 have e0:∀ y:F2,T2.ptx2 (.aff x y) 0=pb x.c1 0+(bif F2.great y then 160 else 128):=fun y=>su_at _ _ _
 refine ⟨?_,funext fun j=>?_⟩
 ·show bits .xor .u8 (T2.ptx2 (.aff x y) 0) 32=T2.ptx2 (.aff x (-y)) 0
  rw [e0,e0,F2.great_neg' hy]
  have:=xor_top _ (pb_top x.c1)
  cases F2.great y
  ·exact this.2
  ·exact this.1
 ·by_cases h:j=0
  ·subst h;rw [su_at]
  ·rw [su_ne h]
   show su _ 0 _ j=su _ 0 _ j
   rw [su_ne h,su_ne h]
end Go.Proofs.YtmibajbpimcfnaaGreatDoor.fpn
/- PointTurned walked: its paths. -/
namespace Go.Proofs.YtmibajbpimcfnaaGreatDoor.fpn
open Go.RowKit Pl EC
theorem xorY (t:TypeId) (a b c:Int) (h:bits .xor .u8 a b=c) (w:World):(binOp .xor t (.int .u8 a) (.int .u8 b)).run Tryz.prog w=.ok (.int .u8 c) w:=by
 simp [binOp,Sem.run_bind,Op.intBits]
 exact h
theorem turned0 {G:World→Prop} (K:PtK G) (R:RefK) (k:Nat) (g1 P:Pt F) (g2 Q:Pt F2) (w:World) (hg:G w) (hk6:k<2^256) (hk:¬ k<ordR):Calls Tryz.prog 7 #[RV k] w (Ret (.bool true) w):=by
 have hp0:=Heap.start w
 go_enter Tryz.func7,Tryz.ntmps7
 refine sgsD [.alloc (RC k),.det (.bool false)] [0,1] [0,0] (fun L d=>[d 0,L.p 0]++D d 2 75) (fun L=>[(L.b 0,RC k)]) hp0 ⟨
  oB,oA,
  trivial⟩ (fun L0 _ w1 hp1=>?_)
 refine wp_seq_k (fun K2 k2=>?_)
 refine sgsD [.det (.bool true),.det (.bool false)] [0,1] [0,1] (fun L d=>[d 0,L0.p 0]++(D d 2 10++([.bool false]++D d 13 64))) (fun L=>[(L0.b 0,RC k)]) hp1 ⟨
  oC K.stay hg (begun10 K R),oN,
  trivial⟩ (fun L1 _ w2 hp2=>?_)
 refine cfk (k2 _ _ ?_)
 refine wp_seq_k (fun K4 k4=>?_)
 refine sgsD [.det (RV k),.det (.bool false),.det (.bool true),.det (.bool true),.det undef,.det undef,.det undef,.det (.bool true)] (nn 8) [0,1,3,7,15,15,63,127] (fun L d=>D d 0 20++([.bool true]++D d 21 56)) (fun L=>[(L0.b 0,RC k)]) hp2 ⟨
  oL 0 0 rR,oH (v:=.bool false) (vs:=#[RV k]) (fun w _ _=>by have h:=mayR hk6 w;rw [decide_eq_false hk] at h;exact h),oN,oM,oS,oS,oS,oP,
  trivial⟩ (fun L2 _ w3 hp3=>?_)
 refine cT ?_
 refine sgsD [.det (.bool true)] [0] [0] (fun L d=>D d 0 2++([.bool true]++D d 3 74)) (fun L=>[(L0.b 0,RC k)]) hp3 ⟨
  oA,
  trivial⟩ (fun L3 _ w4 hp4=>?_)
 refine wp_ret ?_
 refine bodyPost_ret (v:=.bool true) ?_ rfl ?_
 ·exact res_t rfl (by kernel_rfl) _
 ·exact ⟨rfl,hp4.bel⟩
theorem turnedz {G:World→Prop} (K:PtK G) (R:RefK) (k:Nat) (g1 P:Pt F) (g2 Q:Pt F2) (w:World) (hg:G w) (hk6:k<2^256) (hk:k<ordR) (h0:k=0):Calls Tryz.prog 7 #[RV k] w (Ret (.bool true) w):=by
 have hp0:=Heap.start w
 go_enter Tryz.func7,Tryz.ntmps7
 refine sgsD [.alloc (RC k),.det (.bool false)] [0,1] [0,0] (fun L d=>[d 0,L.p 0]++D d 2 75) (fun L=>[(L.b 0,RC k)]) hp0 ⟨
  oB,oA,
  trivial⟩ (fun L0 _ w1 hp1=>?_)
 refine wp_seq_k (fun K2 k2=>?_)
 refine sgsD [.det (.bool true),.det (.bool false)] [0,1] [0,1] (fun L d=>[d 0,L0.p 0]++(D d 2 10++([.bool false]++D d 13 64))) (fun L=>[(L0.b 0,RC k)]) hp1 ⟨
  oC K.stay hg (begun10 K R),oN,
  trivial⟩ (fun L1 _ w2 hp2=>?_)
 refine cfk (k2 _ _ ?_)
 refine wp_seq_k (fun K4 k4=>?_)
 refine sgsD [.det (RV k),.det (.bool true),.det (.bool false),.det (.bool false),.det (RV k),.det (RV 0),.det (.bool true),.det (.bool true)] (nn 8) [0,1,3,7,15,15,63,127] (fun L d=>D d 0 20++([.bool true]++D d 21 56)) (fun L=>[(L0.b 0,RC k)]) hp2 ⟨
  oL 0 0 rR,oH (v:=.bool true) (vs:=#[RV k]) (fun w _ _=>by have h:=mayR hk6 w;rw [decide_eq_true hk] at h;exact h),oN,oM,oL 0 0 rR,oD buildRn,
  oW (u:=RV k) (v:=RV 0) (r:=.bool true) (fun w=>guardR _ _ _ _ _ w) (fun w=>eqlR0 hk6 _ (decide_eq_true h0) w),oP,
  trivial⟩ (fun L2 _ w3 hp3=>?_)
 refine cT ?_
 refine sgsD [.det (.bool true)] [0] [0] (fun L d=>D d 0 2++([.bool true]++D d 3 74)) (fun L=>[(L0.b 0,RC k)]) hp3 ⟨
  oA,
  trivial⟩ (fun L3 _ w4 hp4=>?_)
 refine wp_ret ?_
 refine bodyPost_ret (v:=.bool true) ?_ rfl ?_
 ·exact res_t rfl (by kernel_rfl) _
 ·exact ⟨rfl,hp4.bel⟩
theorem turnedn {G:World→Prop} (K:PtK G) (R:RefK) (k:Nat) (g1 P:Pt F) (g2 Q:Pt F2) (w:World) (hg:G w) (hk6:k<2^256) (hk:k<ordR) (h0:¬ k=0) (hg1:g1=gen1) (hg2:g2=gen2) (h1:On (4:F) g1) (h2:On b2 g2) (hP:mul finv k g1=P) (hQ:mul F2.inv k g2=Q) (hx1:bits .xor .u8 (ptx P 0) 32=ptx (neg P) 0) (hx2:bits .xor .u8 (T2.ptx2 Q 0) 32=T2.ptx2 (neg Q) 0) (hr1:∀ j,j<48→0≤su (ptx P) 0 (ptx (neg P) 0) j∧su (ptx P) 0 (ptx (neg P) 0) j<256) (hr2:∀ j,j<96→0≤su (T2.ptx2 Q) 0 (T2.ptx2 (neg Q) 0) j∧su (T2.ptx2 Q) 0 (T2.ptx2 (neg Q) 0) j<256) (ht1:tkA (su (ptx P) 0 (ptx (neg P) 0)) 48=.tuple #[GV (gp (neg P)),.int .i64 0]) (ht2:T2.tkB (su (T2.ptx2 Q) 0 (T2.ptx2 (neg Q) 0)) 96=.tuple #[T2.GV (T2.gp (neg Q)),.int .i64 0]):Calls Tryz.prog 7 #[RV k] w (Ret (.bool true) w):=by
 have hp0:=Heap.start w
 go_enter Tryz.func7,Tryz.ntmps7
 refine sgsD [.alloc (RC k),.det (.bool false)] [0,1] [0,0] (fun L d=>[d 0,L.p 0]++D d 2 75) (fun L=>[(L.b 0,RC k)]) hp0 ⟨
  oB,oA,
  trivial⟩ (fun L0 _ w1 hp1=>?_)
 refine wp_seq_k (fun K2 k2=>?_)
 refine sgsD [.det (.bool true),.det (.bool false)] [0,1] [0,1] (fun L d=>[d 0,L0.p 0]++(D d 2 10++([.bool false]++D d 13 64))) (fun L=>[(L0.b 0,RC k)]) hp1 ⟨
  oC K.stay hg (begun10 K R),oN,
  trivial⟩ (fun L1 _ w2 hp2=>?_)
 refine cfk (k2 _ _ ?_)
 refine wp_seq_k (fun K4 k4=>?_)
 refine sgsD [.det (RV k),.det (.bool true),.det (.bool false),.det (.bool false),.det (RV k),.det (RV 0),.det (.bool false),.det (.bool false)] (nn 8) [0,1,3,7,15,15,63,127] (fun L d=>[d 0,L0.p 0]++(D d 2 18++([.bool false]++D d 21 56))) (fun L=>[(L0.b 0,RC k)]) hp2 ⟨
  oL 0 0 rR,oH (v:=.bool true) (vs:=#[RV k]) (fun w _ _=>by have h:=mayR hk6 w;rw [decide_eq_true hk] at h;exact h),oN,oM,oL 0 0 rR,oD buildRn,
  oW (u:=RV k) (v:=RV 0) (r:=.bool false) (fun w=>guardR _ _ _ _ _ w) (fun w=>eqlR0 hk6 _ (decide_eq_false h0) w),oP,
  trivial⟩ (fun L2 _ w3 hp3=>?_)
 refine cfk (k4 _ _ ?_)
 refine sdrD [.det (GV (gp g1)),.det (RV k),.det (GV (gp P)),.det (T2.GV (T2.gp g2)),.det (RV k),.det (T2.GV (T2.gp Q)),.alloc (GC ⟨0,0,false⟩),.alloc (T2.GC ⟨0,0,false⟩),.store (.new 6) 0 (GC (gp P)) (GC (gp P)),.store (.new 7) 0 (T2.GC (T2.gp Q)) (T2.GC (T2.gp Q))] (nn 10) [0,0,3,7,0,31,0,0,255,511] (fun L d=>D d 0 3++([L.p 6,L.p 7]++D d 5 72)) (fun L=>[(L0.b 0,RC k),(L.b 6,GC (gp P)),(L.b 7,T2.GC (T2.gp Q))]) hp3 ⟨
  oR (by rw [hg1];exact ref5Gen1 R),oL 0 0 rR,oH (v:=GV (gp P)) (vs:=#[GV (gp g1),RV k]) (fun w _ _=>by rw [← hP];exact ref5Times1 R g1 k w h1 hk6),
  oR (by rw [hg2];exact T2.ref5Gen1 R),oL 0 0 rR,oH (v:=T2.GV (T2.gp Q)) (vs:=#[T2.GV (T2.gp g2),RV k]) (fun w _ _=>by rw [← hQ];exact T2.ref5Times1 R g2 k w h2 hk6),
  oZ rG,oZ T2.rG,oT rG,oT T2.rG,
  trivial⟩ (fun L3 d3 w4 hp4=>?_)
 refine wp_seq_k (fun K7 k7=>?_)
 refine dT 3 [.det (GV (gp P)),.any (isB w.heap.size [L0.b 0,L3.b 6,L3.b 7] (ptx P) 48),.det (T2.GV (T2.gp Q)),.any (fun _ _=>True),.detV 1 (fun v=>v),.detV 3 (fun v=>v)] [0,1,2] [0,1,0,7,15,31] (fun L=>D d3 0 3++([L3.p 6,L3.p 7]++(D d3 5 22++([GV (gp P),L.v 1,T2.GV (T2.gp Q)]++D d3 30 47)))) hp4 ⟨
  oL 1 0 rG,oY (fun L=>#[GV (gp P)]) (fun _ _ _ h hb=>h.stay hb) (fun L w hs=>newB hs [L0.b 0,L3.b 6,L3.b 7] (K.put1 P w (K.stay hg hs.bel))),oL 2 0 T2.rG,trivial⟩ (fun L4 w5 hp5 ha5=>?_)
 obtain ⟨kb4b1,cb4b1,eb4b1,lb4b1,mb4b1,qb4b1,ub4b1,xb4b1⟩:=ha5 1 _ (by decide) rfl
 rw [eb4b1]
 refine tail3 (by kernel_rfl) (wpOp_of rfl rfl (wp_callB (f:=T2.ptx2 Q) (n:=96) (K.put2 Q w5 (K.stay hg hp5.bel)) (fun kb4b3 cb4b3 x4b3 lb4b3 mb4b3 qb4b3 yb4b3 xb4b3=>?_)))
 refine wpOp_of rfl rfl (wp_assign (v:=.slice (some ⟨kb4b1,0,none⟩) 48 cb4b1) rfl (by kernel_rfl) ?_)
 refine wpOp_of rfl rfl (wp_assign (v:=.slice (some ⟨kb4b3,0,none⟩) 96 cb4b3) rfl (by kernel_rfl) ?_)
 have hp5n:=Heap.add (Heap.later (Heap.add hp5 qb4b1 ub4b1 xb4b1) yb4b3) (Nat.le_trans hp5.le qb4b3) (fun b hb=>Nat.lt_of_lt_of_le (Heap.lts (Heap.add hp5 qb4b1 ub4b1 xb4b1) b hb) qb4b3) xb4b3
 refine k7 _ _ ?_
 refine wp_seq_k (fun K8 k8=>?_)
 refine sgsD [.det (.slice (some ⟨kb4b1,0,none⟩) 48 cb4b1),.det (.int .i64 48),.det (.bool false),.det (.bool false),.det (.slice (some ⟨kb4b3,0,none⟩) 96 cb4b3),.det (.int .i64 96),.det (.bool false),.det (.bool false)] (nn 8) [0,1,3,7,15,31,63,127] (fun L d=>D d 0 3++([L3.p 6,L3.p 7,.slice (some ⟨kb4b1,0,none⟩) 48 cb4b1,.slice (some ⟨kb4b3,0,none⟩) 96 cb4b3]++(D d 7 31++([.bool false]++D d 39 38)))) (fun L=>[(L0.b 0,RC k),(L3.b 6,GC (gp P)),(L3.b 7,T2.GC (T2.gp Q)),(kb4b1,BC (ptx P) 48),(kb4b3,BC (T2.ptx2 Q) 96)]) hp5n ⟨
  oM,fun h=>⟨ob_len (p:=(some ⟨kb4b1,0,none⟩)) (n:=48) (c:=cb4b1) (fun _=>rfl) h rfl (fun _=>by kernel_rfl) Tryz.underlying45⟩,oJ .i64 .i64 48 48 (h:=fun w=>(neqI _ _ _ _ w).trans rfl),
  oM,oM,fun h=>⟨ob_len (p:=(some ⟨kb4b3,0,none⟩)) (n:=96) (c:=cb4b3) (fun _=>by kernel_rfl) h rfl (fun _=>by kernel_rfl) Tryz.underlying45⟩,
  oJ .i64 .i64 96 96 (h:=fun w=>(neqI _ _ _ _ w).trans rfl),oP,
  trivial⟩ (fun L5 _ w6 hp6=>?_)
 refine cfk (k8 _ _ ?_)
 refine sgsD [.det (.slice (some ⟨kb4b1,0,none⟩) 48 cb4b1),.det (pt kb4b1 0),.det (.int .u8 (ptx P 0)),.det (.int .u8 (ptx (neg P) 0)),.det (pt kb4b1 0),.store (.base 3) 0 ([.int .u8 (ptx (neg P) 0)]) (BC (su (ptx P) 0 (ptx (neg P) 0)) 48)] (nn 6) [0,1,3,7,15,31] (fun L d=>D d 0 3++([L3.p 6,L3.p 7,.slice (some ⟨kb4b1,0,none⟩) 48 cb4b1,.slice (some ⟨kb4b3,0,none⟩) 96 cb4b3]++D d 7 70)) (fun L=>[(L0.b 0,RC k),(L3.b 6,GC (gp P)),(L3.b 7,T2.GC (T2.gp Q)),(kb4b1,BC (su (ptx P) 0 (ptx (neg P) 0)) 48),(kb4b3,BC (T2.ptx2 Q) 96)]) hp6 ⟨
  oM,oIS (b:=kb4b1) (off:=0) (n:=48) (c:=cb4b1) (sz:=1) 0 Tryz.underlying45 sizeY (by decide),oL1 3 0 oneY,oJ .u8 .u8 (ptx P 0) 32 (h:=fun w=>xorY _ _ _ _ hx1 w),
  oIS (b:=kb4b1) (off:=0) (n:=48) (c:=cb4b1) (sz:=1) 0 Tryz.underlying45 sizeY (by decide),oT1 oneY,
  trivial⟩ (fun L6 _ w7 hp7=>?_)
 refine sgsD [.det (.slice (some ⟨kb4b3,0,none⟩) 96 cb4b3),.det (pt kb4b3 0),.det (.int .u8 (T2.ptx2 Q 0)),.det (.int .u8 (T2.ptx2 (neg Q) 0)),.det (pt kb4b3 0),.store (.base 4) 0 ([.int .u8 (T2.ptx2 (neg Q) 0)]) (BC (su (T2.ptx2 Q) 0 (T2.ptx2 (neg Q) 0)) 96)] (nn 6) [0,1,3,7,15,31] (fun L d=>D d 0 3++([L3.p 6,L3.p 7,.slice (some ⟨kb4b1,0,none⟩) 48 cb4b1,.slice (some ⟨kb4b3,0,none⟩) 96 cb4b3]++D d 7 70)) (fun L=>[(L0.b 0,RC k),(L3.b 6,GC (gp P)),(L3.b 7,T2.GC (T2.gp Q)),(kb4b1,BC (su (ptx P) 0 (ptx (neg P) 0)) 48),(kb4b3,BC (su (T2.ptx2 Q) 0 (T2.ptx2 (neg Q) 0)) 96)]) hp7 ⟨
  oM,oIS (b:=kb4b3) (off:=0) (n:=96) (c:=cb4b3) (sz:=1) 0 Tryz.underlying45 sizeY (by decide),oL1 4 0 oneY,oJ .u8 .u8 (T2.ptx2 Q 0) 32 (h:=fun w=>xorY _ _ _ _ hx2 w),
  oIS (b:=kb4b3) (off:=0) (n:=96) (c:=cb4b3) (sz:=1) 0 Tryz.underlying45 sizeY (by decide),oT1 oneY,
  trivial⟩ (fun L7 _ w8 hp8=>?_)
 refine sgsD [.det (.slice (some ⟨kb4b1,0,none⟩) 48 cb4b1),.det (.tuple #[GV (gp (neg P)),.int .i64 0]),.det (.tuple #[GV (gp (neg P)),.int .i64 0]),.det (GV (gp (neg P))),.det (.int .i64 0),.alloc (GC ⟨0,0,false⟩),.store (.new 5) 0 (GC (gp (neg P))) (GC (gp (neg P))),.det (.int .i64 0)] (nn 8) [0,1,3,7,7,0,47,127] (fun L d=>D d 0 3++([L3.p 6,L3.p 7,d 5,.slice (some ⟨kb4b3,0,none⟩) 96 cb4b3,L.p 5,.int .i64 0]++D d 9 68)) (fun L=>[(L0.b 0,RC k),(L3.b 6,GC (gp P)),(L3.b 7,T2.GC (T2.gp Q)),(kb4b1,BC (su (ptx P) 0 (ptx (neg P) 0)) 48),(kb4b3,BC (su (T2.ptx2 Q) 0 (T2.ptx2 (neg Q) 0)) 96),(L.b 5,GC (gp (neg P)))]) hp8 ⟨
  oM,oCS (fun L=>#[.slice (some ⟨kb4b1,0,none⟩) 48 cb4b1]) (fun L w hs=>by have h:=K.take1 _ 48 _ _ w (K.stay hg hs.bel) lb4b1 mb4b1 (box_at (seen_at hs (k:=3) rfl)) hr1;rw [ht1] at h;exact h),
  oM,oX,oX,oZ rG,oT rG,oA,
  trivial⟩ (fun L8 _ w9 hp9=>?_)
 refine sgsD [.det (.slice (some ⟨kb4b3,0,none⟩) 96 cb4b3),.det (.tuple #[T2.GV (T2.gp (neg Q)),.int .i64 0]),.det (.tuple #[T2.GV (T2.gp (neg Q)),.int .i64 0]),.det (T2.GV (T2.gp (neg Q))),.det (.int .i64 0),.alloc (T2.GC ⟨0,0,false⟩),.store (.new 5) 0 (T2.GC (T2.gp (neg Q))) (T2.GC (T2.gp (neg Q))),.det (.int .i64 0)] (nn 8) [0,1,3,7,7,0,47,127] (fun L d=>D d 0 3++([L3.p 6,L3.p 7]++(D d 5 2++([L8.p 5,.int .i64 0,L.p 5,.int .i64 0]++D d 11 66)))) (fun L=>[(L0.b 0,RC k),(L3.b 6,GC (gp P)),(L3.b 7,T2.GC (T2.gp Q)),(kb4b1,BC (su (ptx P) 0 (ptx (neg P) 0)) 48),(kb4b3,BC (su (T2.ptx2 Q) 0 (T2.ptx2 (neg Q) 0)) 96),(L8.b 5,GC (gp (neg P))),(L.b 5,T2.GC (T2.gp (neg Q)))]) hp9 ⟨
  oM,oCS (fun L=>#[.slice (some ⟨kb4b3,0,none⟩) 96 cb4b3]) (fun L w hs=>by have h:=K.take2 _ 96 _ _ w (K.stay hg hs.bel) lb4b3 mb4b3 (box_at (seen_at hs (k:=4) rfl)) hr2;rw [ht2] at h;exact h),
  oM,oX,oX,oZ T2.rG,oT T2.rG,oA,
  trivial⟩ (fun L9 _ w10 hp10=>?_)
 refine sdrD [.det (.int .i64 0),.det (.bool true),.det (.bool true),.det (.int .i64 0),.det (.bool true),.det (.bool true),.det (.bool true),.det (GV (gp (neg P))),.det (GV (gp P)),.det (GV (gp (neg P))),.det (.bool true),.det (.bool true),.det (.bool true),.det (T2.GV (T2.gp (neg Q))),.det (T2.GV (T2.gp Q)),.det (T2.GV (T2.gp (neg Q))),.det (.bool true),.det (.bool true),.det (.bool true)] (nn 19) [0,1,3,7,15,31,63,127,127,383,1023,2047,4095,8191,8191,24575,65535,131071,262143] (fun L d=>D d 0 2++([.bool true]++D d 3 74)) (fun L=>[(L0.b 0,RC k),(L3.b 6,GC (gp P)),(L3.b 7,T2.GC (T2.gp Q)),(kb4b1,BC (su (ptx P) 0 (ptx (neg P) 0)) 48),(kb4b3,BC (su (T2.ptx2 Q) 0 (T2.ptx2 (neg Q) 0)) 96),(L8.b 5,GC (gp (neg P))),(L9.b 5,T2.GC (T2.gp (neg Q)))]) hp10 ⟨
  oM,oJ .i64 .i64 0 0 (h:=fun w=>(eqlI _ _ _ _ w).trans rfl),oM,oM,oJ .i64 .i64 0 0 (h:=fun w=>(eqlI _ _ _ _ w).trans rfl),oP,oM,oL 5 0 rG,oL 1 0 rG,
  oR (ref5Minus1 R P),oE (a:=(gp (neg P))) (b:=(gp (neg P))) qG (yes rfl),oP,oM,oL 6 0 T2.rG,oL 2 0 T2.rG,oR (T2.ref5Minus1 R Q),oE (a:=(T2.gp (neg Q))) (b:=(T2.gp (neg Q))) T2.qG (yes rfl),
  oP,oA,
  trivial⟩ (fun L10 _ w11 hp11=>?_)
 refine wp_ret ?_
 refine bodyPost_ret (v:=.bool true) ?_ rfl ?_
 ·exact res_t rfl (by kernel_rfl) _
 ·exact ⟨rfl,hp11.bel⟩
end Go.Proofs.YtmibajbpimcfnaaGreatDoor.fpn
/- PointTurned walked. -/
namespace Go.Proofs.YtmibajbpimcfnaaGreatDoor.fpn
open Go.RowKit Pl EC
theorem turned1 {g:Pt F} {k r:Nat} (hg:On (4:F) g) (hr:Pr r) (hodd:r%2=1) (hI:mul finv r g=.inf) (h1:g≠.inf) (hk:0<k) (hkr:k<r):∃ x y:F,mul finv k g=.aff x y∧y≠0∧On (4:F) (.aff x y)∧mul finv r (.aff x y)=.inf:=by
 have hO:=mul_on crv1 hg k
 have hn:=no_small1 hg hr hI h1 hk hkr
 have hi:mul finv r (mul finv k g)=.inf:=by
  rw [← mul_mul crv1 hg,Nat.mul_comm,mul_mul crv1 hg,hI];exact mul_inf _
 cases hm:mul finv k g with
 | inf=>exact absurd hm hn
 | aff x y =>
  rw [hm] at hO hi
  exact ⟨x,y,rfl,y_ne1 hO hi hodd,hO,hi⟩
theorem turned2 {g:Pt F2} {k r:Nat} (hg:On b2 g) (hr:Pr r) (hodd:r%2=1) (hI:mul F2.inv r g=.inf) (h1:g≠.inf) (hk:0<k) (hkr:k<r):∃ x y:F2,mul F2.inv k g=.aff x y∧y≠0∧On b2 (.aff x y)∧mul F2.inv r (.aff x y)=.inf:=by
 have hO:=mul_on crv2 hg k
 have hn:=no_small2 hg hr hI h1 hk hkr
 have hi:mul F2.inv r (mul F2.inv k g)=.inf:=by
  rw [← mul_mul crv2 hg,Nat.mul_comm,mul_mul crv2 hg,hI];exact mul_inf _
 cases hm:mul F2.inv k g with
 | inf=>exact absurd hm hn
 | aff x y =>
  rw [hm] at hO hi
  exact ⟨x,y,rfl,y_ne2 hO hi hodd,hO,hi⟩
theorem pr_ordR:Pr ordR:=pr_R
theorem odd_ordR:ordR%2=1:=by decide +kernel
theorem gen1_ne:gen1≠.inf:=fun h=>by unfold gen1 at h;cases h
theorem gen2_ne:gen2≠.inf:=fun h=>by unfold gen2 at h;cases h
theorem pointTurned_walk {G:World→Prop} (K:PtK G) (R:RefK) (k:Nat) (w:World) (hg:G w) (hk6:k<2^256):Calls Tryz.prog 7 #[RV k] w (Ret (.bool true) w):=by
 by_cases hk:k<ordR
 ·by_cases h0:k=0
  ·exact turnedz K R k gen1 gen1 gen2 gen2 w hg hk6 hk h0
  ·obtain ⟨x1,y1,e1,n1,O1,I1⟩:=turned1 gen1_on pr_ordR odd_ordR gen1_order gen1_ne (Nat.pos_of_ne_zero h0) hk
   obtain ⟨x2,y2,e2,n2,O2,I2⟩:=turned2 gen2_on pr_ordR odd_ordR gen2_order gen2_ne (Nat.pos_of_ne_zero h0) hk
   obtain ⟨f1,s1⟩:=ptx_flip (x:=x1) n1
   obtain ⟨f2,s2⟩:=ptx2_flip (x:=x2) n2
   refine turnedn K R k gen1 (.aff x1 y1) gen2 (.aff x2 y2) w hg hk6 hk h0 rfl rfl gen1_on gen2_on e1 e2 f1 f2 ?_ ?_ ?_ ?_
   ·rw [s1];exact ptx_rg _
   ·rw [s2];exact ptx2_rg _
   ·rw [s1];exact tk_back1 (neg_on O1) (in_neg1 O1 I1)
   ·rw [s2];exact T2.tk_back2 (neg_on O2) (in_neg2 O2 I2)
 ·exact turned0 K R k gen1 gen1 gen2 gen2 w hg hk6 hk
end Go.Proofs.YtmibajbpimcfnaaGreatDoor.fpn
