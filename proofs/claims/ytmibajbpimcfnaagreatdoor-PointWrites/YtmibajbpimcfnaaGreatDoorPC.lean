/- Texts laid together. -/
import Derived.Test.YtmibajbpimcfnaaGreatDoorPA
import Derived.Test.YtmibajbpimcfnaaGreatDoorGO
import Derived.Test.YtmibajbpimcfnaaGreatDoorQA
import Derived.Test.YtmibajbpimcfnaaGreatDoorGW
import Derived.Test.YtmibajbpimcfnaaGreatDoorGV
set_option linter.unusedVariables false
set_option linter.unusedSimpArgs false
set_option maxRecDepth 4000
set_option maxHeartbeats 4000000
/- PointWrites walked. -/
namespace Go.Proofs.YtmibajbpimcfnaaGreatDoor.fpn
open Go.RowKit Pl EC
theorem writes0i {G:World→Prop} (K:PtK G) (R:RefK) (k n:Nat) (g1 P A1:Pt F) (g2 Q A2:Pt F2) (U:G1p) (V:T2.G2p) (u v:Bool) (w:World) (hg:G w) (hk6:k<2^256) (hk:¬ k<ordR) (hg1:g1=gen1) (hg2:g2=gen2) (h1:On (4:F) g1) (h2:On b2 g2) (hP:mul finv k g1=P) (hQ:mul F2.inv k g2=Q) (hU:∀ w,Calls Tryz.prog 15 #[.int .u64 ((n:Nat):Int)] w (Ret (.tuple #[GV U,.bool u]) w)) (hV:∀ w,Calls Tryz.prog 16 #[.int .u64 ((n:Nat):Int)] w (Ret (.tuple #[T2.GV V,.bool v]) w)) (hA1:gp A1=(gp P)) (hA2:T2.gp A2=(T2.gp Q)):Calls Tryz.prog 3 #[RV k,.int .u64 ((n:Nat):Int),.bool false] w (Ret (.bool true) w):=by
 have hp0:=Heap.start w
 go_enter Tryz.func3,Tryz.ntmps3
 refine sgsD [.alloc (RC k),.det (.bool false)] [0,1] [0,0] (fun L d=>D d 0 3++([L.p 0]++D d 4 60)) (fun L=>[(L.b 0,RC k)]) hp0 ⟨
  oB,oA,
  trivial⟩ (fun L0 _ w1 hp1=>?_)
 refine wp_seq_k (fun K2 k2=>?_)
 refine sgsD [.det (.bool true),.det (.bool false)] [0,1] [0,1] (fun L d=>D d 0 3++([L0.p 0]++(D d 4 6++([.bool false]++D d 11 53)))) (fun L=>[(L0.b 0,RC k)]) hp1 ⟨
  oC K.stay hg (begun10 K R),oN,
  trivial⟩ (fun L1 _ w2 hp2=>?_)
 refine cfk (k2 _ _ ?_)
 refine wp_seq_k (fun K4 k4=>?_)
 refine sgsD [.det (RV k),.det (.bool false),.det (.bool true)] [0,1,2] [0,1,3] (fun L d=>D d 0 13++([.bool true]++D d 14 50)) (fun L=>[(L0.b 0,RC k)]) hp2 ⟨
  oL 0 0 rR,oH (v:=.bool false) (vs:=#[RV k]) (fun w _ _=>by have h:=mayR hk6 w;rw [decide_eq_false hk] at h;exact h),oN,
  trivial⟩ (fun L2 _ w3 hp3=>?_)
 refine cT ?_
 refine sgsD [.det (.bool true)] [0] [0] (fun L d=>D d 0 6++([.bool true]++D d 7 57)) (fun L=>[(L0.b 0,RC k)]) hp3 ⟨
  oA,
  trivial⟩ (fun L3 _ w4 hp4=>?_)
 refine wp_ret ?_
 refine bodyPost_ret (v:=.bool true) ?_ rfl ?_
 ·exact res_t rfl (by kernel_rfl) _
 ·exact ⟨rfl,hp4.bel⟩
theorem writes0o {G:World→Prop} (K:PtK G) (R:RefK) (k n:Nat) (g1 P A1:Pt F) (g2 Q A2:Pt F2) (U:G1p) (V:T2.G2p) (u v:Bool) (w:World) (hg:G w) (hk6:k<2^256) (hk:¬ k<ordR) (hg1:g1=gen1) (hg2:g2=gen2) (h1:On (4:F) g1) (h2:On b2 g2) (hP:mul finv k g1=P) (hQ:mul F2.inv k g2=Q) (hU:∀ w,Calls Tryz.prog 15 #[.int .u64 ((n:Nat):Int)] w (Ret (.tuple #[GV U,.bool u]) w)) (hV:∀ w,Calls Tryz.prog 16 #[.int .u64 ((n:Nat):Int)] w (Ret (.tuple #[T2.GV V,.bool v]) w)) (hA1:gp A1=U) (hA2:T2.gp A2=V):Calls Tryz.prog 3 #[RV k,.int .u64 ((n:Nat):Int),.bool true] w (Ret (.bool true) w):=by
 have hp0:=Heap.start w
 go_enter Tryz.func3,Tryz.ntmps3
 refine sgsD [.alloc (RC k),.det (.bool false)] [0,1] [0,0] (fun L d=>D d 0 3++([L.p 0]++D d 4 60)) (fun L=>[(L.b 0,RC k)]) hp0 ⟨
  oB,oA,
  trivial⟩ (fun L0 _ w1 hp1=>?_)
 refine wp_seq_k (fun K2 k2=>?_)
 refine sgsD [.det (.bool true),.det (.bool false)] [0,1] [0,1] (fun L d=>D d 0 3++([L0.p 0]++(D d 4 6++([.bool false]++D d 11 53)))) (fun L=>[(L0.b 0,RC k)]) hp1 ⟨
  oC K.stay hg (begun10 K R),oN,
  trivial⟩ (fun L1 _ w2 hp2=>?_)
 refine cfk (k2 _ _ ?_)
 refine wp_seq_k (fun K4 k4=>?_)
 refine sgsD [.det (RV k),.det (.bool false),.det (.bool true)] [0,1,2] [0,1,3] (fun L d=>D d 0 13++([.bool true]++D d 14 50)) (fun L=>[(L0.b 0,RC k)]) hp2 ⟨
  oL 0 0 rR,oH (v:=.bool false) (vs:=#[RV k]) (fun w _ _=>by have h:=mayR hk6 w;rw [decide_eq_false hk] at h;exact h),oN,
  trivial⟩ (fun L2 _ w3 hp3=>?_)
 refine cT ?_
 refine sgsD [.det (.bool true)] [0] [0] (fun L d=>D d 0 6++([.bool true]++D d 7 57)) (fun L=>[(L0.b 0,RC k)]) hp3 ⟨
  oA,
  trivial⟩ (fun L3 _ w4 hp4=>?_)
 refine wp_ret ?_
 refine bodyPost_ret (v:=.bool true) ?_ rfl ?_
 ·exact res_t rfl (by kernel_rfl) _
 ·exact ⟨rfl,hp4.bel⟩
theorem writesitt {G:World→Prop} (K:PtK G) (R:RefK) (k n:Nat) (g1 P A1:Pt F) (g2 Q A2:Pt F2) (U:G1p) (V:T2.G2p) (u v:Bool) (w:World) (hg:G w) (hk6:k<2^256) (hk:k<ordR) (hg1:g1=gen1) (hg2:g2=gen2) (h1:On (4:F) g1) (h2:On b2 g2) (hP:mul finv k g1=P) (hQ:mul F2.inv k g2=Q) (hU:∀ w,Calls Tryz.prog 15 #[.int .u64 ((n:Nat):Int)] w (Ret (.tuple #[GV U,.bool u]) w)) (hV:∀ w,Calls Tryz.prog 16 #[.int .u64 ((n:Nat):Int)] w (Ret (.tuple #[T2.GV V,.bool v]) w)) (hO1:∀ w,Calls Tryz.prog 17 #[GV (gp P)] w (Ret (.bool true) w)) (hO2:∀ w,Calls Tryz.prog 18 #[T2.GV (T2.gp Q)] w (Ret (.bool true) w)) (hA1:gp A1=(gp P)) (hA2:T2.gp A2=(T2.gp Q)):Calls Tryz.prog 3 #[RV k,.int .u64 ((n:Nat):Int),.bool false] w (Ret (.bool true) w):=by
 have hp0:=Heap.start w
 go_enter Tryz.func3,Tryz.ntmps3
 refine sgsD [.alloc (RC k),.det (.bool false)] [0,1] [0,0] (fun L d=>D d 0 2++([.bool false,L.p 0]++D d 4 60)) (fun L=>[(L.b 0,RC k)]) hp0 ⟨
  oB,oA,
  trivial⟩ (fun L0 _ w1 hp1=>?_)
 refine wp_seq_k (fun K2 k2=>?_)
 refine sgsD [.det (.bool true),.det (.bool false)] [0,1] [0,1] (fun L d=>D d 0 2++([.bool false,L0.p 0]++(D d 4 6++([.bool false]++D d 11 53)))) (fun L=>[(L0.b 0,RC k)]) hp1 ⟨
  oC K.stay hg (begun10 K R),oN,
  trivial⟩ (fun L1 _ w2 hp2=>?_)
 refine cfk (k2 _ _ ?_)
 refine wp_seq_k (fun K4 k4=>?_)
 refine sgsD [.det (RV k),.det (.bool true),.det (.bool false)] [0,1,2] [0,1,3] (fun L d=>D d 0 2++([.bool false,L0.p 0]++(D d 4 9++([.bool false]++D d 14 50)))) (fun L=>[(L0.b 0,RC k)]) hp2 ⟨
  oL 0 0 rR,oH (v:=.bool true) (vs:=#[RV k]) (fun w _ _=>by have h:=mayR hk6 w;rw [decide_eq_true hk] at h;exact h),oN,
  trivial⟩ (fun L2 _ w3 hp3=>?_)
 refine cfk (k4 _ _ ?_)
 refine sdrD [.det (GV (gp g1)),.det (RV k),.det (GV (gp P)),.det (T2.GV (T2.gp g2)),.det (RV k),.det (T2.GV (T2.gp Q)),.alloc (GC ⟨0,0,false⟩),.alloc (T2.GC ⟨0,0,false⟩),.store (.new 6) 0 (GC (gp P)) (GC (gp P)),.store (.new 7) 0 (T2.GC (T2.gp Q)) (T2.GC (T2.gp Q))] (Pl.nn 10) [0,0,3,7,0,31,0,0,255,511] (fun L d=>D d 0 2++([.bool false]++(D d 3 4++([L.p 6,L.p 7]++D d 9 55)))) (fun L=>[(L0.b 0,RC k),(L.b 6,GC (gp P)),(L.b 7,T2.GC (T2.gp Q))]) hp3 ⟨
  oR (by rw [hg1];exact ref5Gen1 R),oL 0 0 rR,oH (v:=GV (gp P)) (vs:=#[GV (gp g1),RV k]) (fun w _ _=>by rw [← hP];exact ref5Times1 R g1 k w h1 hk6),
  oR (by rw [hg2];exact T2.ref5Gen1 R),oL 0 0 rR,oH (v:=T2.GV (T2.gp Q)) (vs:=#[T2.GV (T2.gp g2),RV k]) (fun w _ _=>by rw [← hQ];exact T2.ref5Times1 R g2 k w h2 hk6),
  oZ rG,oZ T2.rG,oT rG,oT T2.rG,
  trivial⟩ (fun L3 _ w4 hp4=>?_)
 refine wp_seq_k (fun K7 k7=>?_)
 refine sgsD [.det (.bool false)] [0] [0] (fun L d=>D d 0 7++([L3.p 6,L3.p 7]++(D d 9 11++([.bool false]++D d 21 43)))) (fun L=>[(L0.b 0,RC k),(L3.b 6,GC (gp P)),(L3.b 7,T2.GC (T2.gp Q))]) hp4 ⟨
  oM,
  trivial⟩ (fun L4 _ w5 hp5=>?_)
 refine cfk (k7 _ _ ?_)
 refine wp_seq_k (fun K9 k9=>?_)
 refine sgsD [.det (GV (gp P)),.det (.bool true),.det (.bool false),.det (.bool false),.det (T2.GV (T2.gp Q)),.det (.bool true),.det (.bool false),.det (.bool false)] (Pl.nn 8) [0,1,3,7,15,31,63,127] (fun L d=>D d 0 7++([L3.p 6,L3.p 7]++(D d 9 29++([.bool false]++D d 39 25)))) (fun L=>[(L0.b 0,RC k),(L3.b 6,GC (gp P)),(L3.b 7,T2.GC (T2.gp Q))]) hp5 ⟨
  oL 1 0 rG,oR hO1,oN,oM,oL 2 0 T2.rG,oR hO2,oN,oP,
  trivial⟩ (fun L5 _ w6 hp6=>?_)
 refine cfk (k9 _ _ ?_)
 refine sdrD [.det (GV (gp P)),.any (isB w.heap.size [L0.b 0,L3.b 6,L3.b 7] (ptx A1) 48),.det (sB (ptx A1) 48),.det (GV (gp P)),.any (isB w.heap.size [L0.b 0,L3.b 6,L3.b 7] (ptx A1) 48),.det (sB (ptx A1) 48),.det (.bool true),.det (.bool true),.det (T2.GV (T2.gp Q)),.any (isB w.heap.size [L0.b 0,L3.b 6,L3.b 7] (T2.ptx2 A2) 96),.det (sB (T2.ptx2 A2) 96),.det (T2.GV (T2.gp Q)),.any (isB w.heap.size [L0.b 0,L3.b 6,L3.b 7] (T2.ptx2 A2) 96),.det (sB (T2.ptx2 A2) 96),.det (.bool true),.det (.bool true),.det (.bool true),.det (GV ⟨0,0,true⟩),.any (isB w.heap.size [L0.b 0,L3.b 6,L3.b 7] (ptx .inf) 48),.det (sB (ptx .inf) 48),.det (GV ⟨0,0,true⟩),.any (isB w.heap.size [L0.b 0,L3.b 6,L3.b 7] (ptx .inf) 48),.det (sB (ptx .inf) 48),.det (.bool true),.det (.bool true),.det (.bool true)] (Pl.nn 26) [0,1,3,0,11,27,63,127,255,511,1023,255,3071,7167,16383,32767,65535,131071,262143,524287,131071,1572863,3670015,8388607,16777215,33554431] (fun L d=>D d 0 6++([.bool true]++D d 7 57)) (fun L=>[(L0.b 0,RC k),(L3.b 6,GC (gp P)),(L3.b 7,T2.GC (T2.gp Q))]) hp6 ⟨
  oL 1 0 rG,oY (fun L=>#[GV (gp P)]) (fun _ _ _ h hb=>h.stay hb) (fun L w hs=>newB hs [L0.b 0,L3.b 6,L3.b 7] (hA1▸K.put1 A1 w (K.stay hg hs.bel))),
  oCs 1 (by decide),oL 1 0 rG,oY (fun L=>#[GV (gp P)]) (fun _ _ _ h hb=>h.stay hb) (fun L w hs=>newB hs [L0.b 0,L3.b 6,L3.b 7] (hA1▸ref5Put1 R A1 w)),
  oCs 4 (by decide),oW (u:=sB (ptx A1) 48) (v:=sB (ptx A1) 48) (r:=.bool true) (fun w=>guardS _ _ _ _ _ _ w) (fun w=>eqlS _ _ w),oM,oL 2 0 T2.rG,
  oY (fun L=>#[T2.GV (T2.gp Q)]) (fun _ _ _ h hb=>h.stay hb) (fun L w hs=>newB hs [L0.b 0,L3.b 6,L3.b 7] (hA2▸K.put2 A2 w (K.stay hg hs.bel))),oCs 9 (by decide),
  oL 2 0 T2.rG,oY (fun L=>#[T2.GV (T2.gp Q)]) (fun _ _ _ h hb=>h.stay hb) (fun L w hs=>newB hs [L0.b 0,L3.b 6,L3.b 7] (hA2▸T2.ref5Put2 R A2 w)),oCs 12 (by decide),
  oW (u:=sB (T2.ptx2 A2) 96) (v:=sB (T2.ptx2 A2) 96) (r:=.bool true) (fun w=>guardS _ _ _ _ _ _ w) (fun w=>eqlS _ _ w),oP,oM,oD (buildGi true),oY (fun L=>#[GV ⟨0,0,true⟩]) (fun _ _ _ h hb=>h.stay hb) (fun L w hs=>newB hs [L0.b 0,L3.b 6,L3.b 7] (K.put1 .inf w (K.stay hg hs.bel))),
  oCs 18 (by decide),oD (buildGi true),oY (fun L=>#[GV ⟨0,0,true⟩]) (fun _ _ _ h hb=>h.stay hb) (fun L w hs=>newB hs [L0.b 0,L3.b 6,L3.b 7] (ref5Put1 R .inf w)),
  oCs 21 (by decide),oW (u:=sB (ptx .inf) 48) (v:=sB (ptx .inf) 48) (r:=.bool true) (fun w=>guardS _ _ _ _ _ _ w) (fun w=>eqlS _ _ w),oP,oA,
  trivial⟩ (fun L6 _ w7 hp7=>?_)
 refine wp_ret ?_
 refine bodyPost_ret (v:=.bool true) ?_ rfl ?_
 ·exact res_t rfl (by kernel_rfl) _
 ·exact ⟨rfl,hp7.bel⟩
theorem writesott {G:World→Prop} (K:PtK G) (R:RefK) (k n:Nat) (g1 P A1:Pt F) (g2 Q A2:Pt F2) (U:G1p) (V:T2.G2p) (u v:Bool) (w:World) (hg:G w) (hk6:k<2^256) (hk:k<ordR) (hg1:g1=gen1) (hg2:g2=gen2) (h1:On (4:F) g1) (h2:On b2 g2) (hP:mul finv k g1=P) (hQ:mul F2.inv k g2=Q) (hU:∀ w,Calls Tryz.prog 15 #[.int .u64 ((n:Nat):Int)] w (Ret (.tuple #[GV U,.bool u]) w)) (hV:∀ w,Calls Tryz.prog 16 #[.int .u64 ((n:Nat):Int)] w (Ret (.tuple #[T2.GV V,.bool v]) w)) (hO1:∀ w,Calls Tryz.prog 17 #[GV U] w (Ret (.bool true) w)) (hO2:∀ w,Calls Tryz.prog 18 #[T2.GV V] w (Ret (.bool true) w)) (hA1:gp A1=U) (hA2:T2.gp A2=V):Calls Tryz.prog 3 #[RV k,.int .u64 ((n:Nat):Int),.bool true] w (Ret (.bool true) w):=by
 have hp0:=Heap.start w
 go_enter Tryz.func3,Tryz.ntmps3
 refine sgsD [.alloc (RC k),.det (.bool false)] [0,1] [0,0] (fun L d=>[d 0,.int .u64 ((n:Nat):Int),.bool true,L.p 0]++D d 4 60) (fun L=>[(L.b 0,RC k)]) hp0 ⟨
  oB,oA,
  trivial⟩ (fun L0 _ w1 hp1=>?_)
 refine wp_seq_k (fun K2 k2=>?_)
 refine sgsD [.det (.bool true),.det (.bool false)] [0,1] [0,1] (fun L d=>[d 0,.int .u64 ((n:Nat):Int),.bool true,L0.p 0]++(D d 4 6++([.bool false]++D d 11 53))) (fun L=>[(L0.b 0,RC k)]) hp1 ⟨
  oC K.stay hg (begun10 K R),oN,
  trivial⟩ (fun L1 _ w2 hp2=>?_)
 refine cfk (k2 _ _ ?_)
 refine wp_seq_k (fun K4 k4=>?_)
 refine sgsD [.det (RV k),.det (.bool true),.det (.bool false)] [0,1,2] [0,1,3] (fun L d=>[d 0,.int .u64 ((n:Nat):Int),.bool true,L0.p 0]++(D d 4 9++([.bool false]++D d 14 50))) (fun L=>[(L0.b 0,RC k)]) hp2 ⟨
  oL 0 0 rR,oH (v:=.bool true) (vs:=#[RV k]) (fun w _ _=>by have h:=mayR hk6 w;rw [decide_eq_true hk] at h;exact h),oN,
  trivial⟩ (fun L2 _ w3 hp3=>?_)
 refine cfk (k4 _ _ ?_)
 refine sdrD [.det (GV (gp g1)),.det (RV k),.det (GV (gp P)),.det (T2.GV (T2.gp g2)),.det (RV k),.det (T2.GV (T2.gp Q)),.alloc (GC ⟨0,0,false⟩),.alloc (T2.GC ⟨0,0,false⟩),.store (.new 6) 0 (GC (gp P)) (GC (gp P)),.store (.new 7) 0 (T2.GC (T2.gp Q)) (T2.GC (T2.gp Q))] (Pl.nn 10) [0,0,3,7,0,31,0,0,255,511] (fun L d=>[d 0,.int .u64 ((n:Nat):Int),.bool true]++(D d 3 4++([L.p 6,L.p 7]++D d 9 55))) (fun L=>[(L0.b 0,RC k),(L.b 6,GC (gp P)),(L.b 7,T2.GC (T2.gp Q))]) hp3 ⟨
  oR (by rw [hg1];exact ref5Gen1 R),oL 0 0 rR,oH (v:=GV (gp P)) (vs:=#[GV (gp g1),RV k]) (fun w _ _=>by rw [← hP];exact ref5Times1 R g1 k w h1 hk6),
  oR (by rw [hg2];exact T2.ref5Gen1 R),oL 0 0 rR,oH (v:=T2.GV (T2.gp Q)) (vs:=#[T2.GV (T2.gp g2),RV k]) (fun w _ _=>by rw [← hQ];exact T2.ref5Times1 R g2 k w h2 hk6),
  oZ rG,oZ T2.rG,oT rG,oT T2.rG,
  trivial⟩ (fun L3 _ w4 hp4=>?_)
 refine wp_seq_k (fun K7 k7=>?_)
 refine sgsD [.det (.bool true)] [0] [0] (fun L d=>[d 0,.int .u64 ((n:Nat):Int)]++(D d 2 5++([L3.p 6,L3.p 7]++(D d 9 11++([.bool true]++D d 21 43))))) (fun L=>[(L0.b 0,RC k),(L3.b 6,GC (gp P)),(L3.b 7,T2.GC (T2.gp Q))]) hp4 ⟨
  oM,
  trivial⟩ (fun L4 _ w5 hp5=>?_)
 refine cT ?_
 refine sgsD [.det (.int .u64 ((n:Nat):Int)),.det (.tuple #[GV U,.bool u]),.det (.tuple #[GV U,.bool u]),.det (GV U),.det (.bool u),.store (.base 1) 0 (GC U) (GC U)] (Pl.nn 6) [0,1,3,7,7,15] (fun L d=>[d 0,.int .u64 ((n:Nat):Int)]++(D d 2 5++([L3.p 6,L3.p 7]++D d 9 55))) (fun L=>[(L0.b 0,RC k),(L3.b 6,GC U),(L3.b 7,T2.GC (T2.gp Q))]) hp5 ⟨
  oM,oR hU,oM,oX,oX,oT rG,
  trivial⟩ (fun L5 _ w6 hp6=>?_)
 refine gsD [.det (.int .u64 ((n:Nat):Int)),.det (.tuple #[T2.GV V,.bool v]),.det (.tuple #[T2.GV V,.bool v]),.det (T2.GV V),.det (.bool v),.store (.base 2) 0 (T2.GC V) (T2.GC V)] (Pl.nn 6) [0,1,3,7,7,15] (fun L d=>D d 0 7++([L3.p 6,L3.p 7]++D d 9 55)) (fun L=>[(L0.b 0,RC k),(L3.b 6,GC U),(L3.b 7,T2.GC V)]) hp6 ⟨
  oM,oR hV,oM,oX,oX,oT T2.rG,
  trivial⟩ (fun L6 _ w7 hp7=>?_)
 refine k7 _ _ ?_
 refine wp_seq_k (fun K10 k10=>?_)
 refine sgsD [.det (GV U),.det (.bool true),.det (.bool false),.det (.bool false),.det (T2.GV V),.det (.bool true),.det (.bool false),.det (.bool false)] (Pl.nn 8) [0,1,3,7,15,31,63,127] (fun L d=>D d 0 7++([L3.p 6,L3.p 7]++(D d 9 29++([.bool false]++D d 39 25)))) (fun L=>[(L0.b 0,RC k),(L3.b 6,GC U),(L3.b 7,T2.GC V)]) hp7 ⟨
  oL 1 0 rG,oR hO1,oN,oM,oL 2 0 T2.rG,oR hO2,oN,oP,
  trivial⟩ (fun L7 _ w8 hp8=>?_)
 refine cfk (k10 _ _ ?_)
 refine sdrD [.det (GV U),.any (isB w.heap.size [L0.b 0,L3.b 6,L3.b 7] (ptx A1) 48),.det (sB (ptx A1) 48),.det (GV U),.any (isB w.heap.size [L0.b 0,L3.b 6,L3.b 7] (ptx A1) 48),.det (sB (ptx A1) 48),.det (.bool true),.det (.bool true),.det (T2.GV V),.any (isB w.heap.size [L0.b 0,L3.b 6,L3.b 7] (T2.ptx2 A2) 96),.det (sB (T2.ptx2 A2) 96),.det (T2.GV V),.any (isB w.heap.size [L0.b 0,L3.b 6,L3.b 7] (T2.ptx2 A2) 96),.det (sB (T2.ptx2 A2) 96),.det (.bool true),.det (.bool true),.det (.bool true),.det (GV ⟨0,0,true⟩),.any (isB w.heap.size [L0.b 0,L3.b 6,L3.b 7] (ptx .inf) 48),.det (sB (ptx .inf) 48),.det (GV ⟨0,0,true⟩),.any (isB w.heap.size [L0.b 0,L3.b 6,L3.b 7] (ptx .inf) 48),.det (sB (ptx .inf) 48),.det (.bool true),.det (.bool true),.det (.bool true)] (Pl.nn 26) [0,1,3,0,11,27,63,127,255,511,1023,255,3071,7167,16383,32767,65535,131071,262143,524287,131071,1572863,3670015,8388607,16777215,33554431] (fun L d=>D d 0 6++([.bool true]++D d 7 57)) (fun L=>[(L0.b 0,RC k),(L3.b 6,GC U),(L3.b 7,T2.GC V)]) hp8 ⟨
  oL 1 0 rG,oY (fun L=>#[GV U]) (fun _ _ _ h hb=>h.stay hb) (fun L w hs=>newB hs [L0.b 0,L3.b 6,L3.b 7] (hA1▸K.put1 A1 w (K.stay hg hs.bel))),oCs 1 (by decide),
  oL 1 0 rG,oY (fun L=>#[GV U]) (fun _ _ _ h hb=>h.stay hb) (fun L w hs=>newB hs [L0.b 0,L3.b 6,L3.b 7] (hA1▸ref5Put1 R A1 w)),oCs 4 (by decide),oW (u:=sB (ptx A1) 48) (v:=sB (ptx A1) 48) (r:=.bool true) (fun w=>guardS _ _ _ _ _ _ w) (fun w=>eqlS _ _ w),
  oM,oL 2 0 T2.rG,oY (fun L=>#[T2.GV V]) (fun _ _ _ h hb=>h.stay hb) (fun L w hs=>newB hs [L0.b 0,L3.b 6,L3.b 7] (hA2▸K.put2 A2 w (K.stay hg hs.bel))),
  oCs 9 (by decide),oL 2 0 T2.rG,oY (fun L=>#[T2.GV V]) (fun _ _ _ h hb=>h.stay hb) (fun L w hs=>newB hs [L0.b 0,L3.b 6,L3.b 7] (hA2▸T2.ref5Put2 R A2 w)),
  oCs 12 (by decide),oW (u:=sB (T2.ptx2 A2) 96) (v:=sB (T2.ptx2 A2) 96) (r:=.bool true) (fun w=>guardS _ _ _ _ _ _ w) (fun w=>eqlS _ _ w),oP,oM,oD (buildGi true),
  oY (fun L=>#[GV ⟨0,0,true⟩]) (fun _ _ _ h hb=>h.stay hb) (fun L w hs=>newB hs [L0.b 0,L3.b 6,L3.b 7] (K.put1 .inf w (K.stay hg hs.bel))),oCs 18 (by decide),
  oD (buildGi true),oY (fun L=>#[GV ⟨0,0,true⟩]) (fun _ _ _ h hb=>h.stay hb) (fun L w hs=>newB hs [L0.b 0,L3.b 6,L3.b 7] (ref5Put1 R .inf w)),oCs 21 (by decide),
  oW (u:=sB (ptx .inf) 48) (v:=sB (ptx .inf) 48) (r:=.bool true) (fun w=>guardS _ _ _ _ _ _ w) (fun w=>eqlS _ _ w),oP,oA,
  trivial⟩ (fun L8 _ w9 hp9=>?_)
 refine wp_ret ?_
 refine bodyPost_ret (v:=.bool true) ?_ rfl ?_
 ·exact res_t rfl (by kernel_rfl) _
 ·exact ⟨rfl,hp9.bel⟩
theorem writesof {G:World→Prop} (K:PtK G) (R:RefK) (k n:Nat) (g1 P A1:Pt F) (g2 Q A2:Pt F2) (U:G1p) (V:T2.G2p) (u v:Bool) (w:World) (hg:G w) (hk6:k<2^256) (hk:k<ordR) (hg1:g1=gen1) (hg2:g2=gen2) (h1:On (4:F) g1) (h2:On b2 g2) (hP:mul finv k g1=P) (hQ:mul F2.inv k g2=Q) (hU:∀ w,Calls Tryz.prog 15 #[.int .u64 ((n:Nat):Int)] w (Ret (.tuple #[GV U,.bool u]) w)) (hV:∀ w,Calls Tryz.prog 16 #[.int .u64 ((n:Nat):Int)] w (Ret (.tuple #[T2.GV V,.bool v]) w)) (hO1:∀ w,Calls Tryz.prog 17 #[GV U] w (Ret (.bool false) w)) (hA1:gp A1=U) (hA2:T2.gp A2=V):Calls Tryz.prog 3 #[RV k,.int .u64 ((n:Nat):Int),.bool true] w (Ret (.bool true) w):=by
 have hp0:=Heap.start w
 go_enter Tryz.func3,Tryz.ntmps3
 refine sgsD [.alloc (RC k),.det (.bool false)] [0,1] [0,0] (fun L d=>[d 0,.int .u64 ((n:Nat):Int),.bool true,L.p 0]++D d 4 60) (fun L=>[(L.b 0,RC k)]) hp0 ⟨
  oB,oA,
  trivial⟩ (fun L0 _ w1 hp1=>?_)
 refine wp_seq_k (fun K2 k2=>?_)
 refine sgsD [.det (.bool true),.det (.bool false)] [0,1] [0,1] (fun L d=>[d 0,.int .u64 ((n:Nat):Int),.bool true,L0.p 0]++(D d 4 6++([.bool false]++D d 11 53))) (fun L=>[(L0.b 0,RC k)]) hp1 ⟨
  oC K.stay hg (begun10 K R),oN,
  trivial⟩ (fun L1 _ w2 hp2=>?_)
 refine cfk (k2 _ _ ?_)
 refine wp_seq_k (fun K4 k4=>?_)
 refine sgsD [.det (RV k),.det (.bool true),.det (.bool false)] [0,1,2] [0,1,3] (fun L d=>[d 0,.int .u64 ((n:Nat):Int),.bool true,L0.p 0]++(D d 4 9++([.bool false]++D d 14 50))) (fun L=>[(L0.b 0,RC k)]) hp2 ⟨
  oL 0 0 rR,oH (v:=.bool true) (vs:=#[RV k]) (fun w _ _=>by have h:=mayR hk6 w;rw [decide_eq_true hk] at h;exact h),oN,
  trivial⟩ (fun L2 _ w3 hp3=>?_)
 refine cfk (k4 _ _ ?_)
 refine sdrD [.det (GV (gp g1)),.det (RV k),.det (GV (gp P)),.det (T2.GV (T2.gp g2)),.det (RV k),.det (T2.GV (T2.gp Q)),.alloc (GC ⟨0,0,false⟩),.alloc (T2.GC ⟨0,0,false⟩),.store (.new 6) 0 (GC (gp P)) (GC (gp P)),.store (.new 7) 0 (T2.GC (T2.gp Q)) (T2.GC (T2.gp Q))] (Pl.nn 10) [0,0,3,7,0,31,0,0,255,511] (fun L d=>[d 0,.int .u64 ((n:Nat):Int),.bool true]++(D d 3 4++([L.p 6,L.p 7]++D d 9 55))) (fun L=>[(L0.b 0,RC k),(L.b 6,GC (gp P)),(L.b 7,T2.GC (T2.gp Q))]) hp3 ⟨
  oR (by rw [hg1];exact ref5Gen1 R),oL 0 0 rR,oH (v:=GV (gp P)) (vs:=#[GV (gp g1),RV k]) (fun w _ _=>by rw [← hP];exact ref5Times1 R g1 k w h1 hk6),
  oR (by rw [hg2];exact T2.ref5Gen1 R),oL 0 0 rR,oH (v:=T2.GV (T2.gp Q)) (vs:=#[T2.GV (T2.gp g2),RV k]) (fun w _ _=>by rw [← hQ];exact T2.ref5Times1 R g2 k w h2 hk6),
  oZ rG,oZ T2.rG,oT rG,oT T2.rG,
  trivial⟩ (fun L3 _ w4 hp4=>?_)
 refine wp_seq_k (fun K7 k7=>?_)
 refine sgsD [.det (.bool true)] [0] [0] (fun L d=>[d 0,.int .u64 ((n:Nat):Int)]++(D d 2 5++([L3.p 6,L3.p 7]++(D d 9 11++([.bool true]++D d 21 43))))) (fun L=>[(L0.b 0,RC k),(L3.b 6,GC (gp P)),(L3.b 7,T2.GC (T2.gp Q))]) hp4 ⟨
  oM,
  trivial⟩ (fun L4 _ w5 hp5=>?_)
 refine cT ?_
 refine sgsD [.det (.int .u64 ((n:Nat):Int)),.det (.tuple #[GV U,.bool u]),.det (.tuple #[GV U,.bool u]),.det (GV U),.det (.bool u),.store (.base 1) 0 (GC U) (GC U)] (Pl.nn 6) [0,1,3,7,7,15] (fun L d=>[d 0,.int .u64 ((n:Nat):Int)]++(D d 2 5++([L3.p 6,L3.p 7]++D d 9 55))) (fun L=>[(L0.b 0,RC k),(L3.b 6,GC U),(L3.b 7,T2.GC (T2.gp Q))]) hp5 ⟨
  oM,oR hU,oM,oX,oX,oT rG,
  trivial⟩ (fun L5 _ w6 hp6=>?_)
 refine gsD [.det (.int .u64 ((n:Nat):Int)),.det (.tuple #[T2.GV V,.bool v]),.det (.tuple #[T2.GV V,.bool v]),.det (T2.GV V),.det (.bool v),.store (.base 2) 0 (T2.GC V) (T2.GC V)] (Pl.nn 6) [0,1,3,7,7,15] (fun L d=>D d 0 7++([L3.p 6]++D d 8 56)) (fun L=>[(L0.b 0,RC k),(L3.b 6,GC U),(L3.b 7,T2.GC V)]) hp6 ⟨
  oM,oR hV,oM,oX,oX,oT T2.rG,
  trivial⟩ (fun L6 _ w7 hp7=>?_)
 refine k7 _ _ ?_
 refine wp_seq_k (fun K10 k10=>?_)
 refine sgsD [.det (GV U),.det (.bool false),.det (.bool true),.det (.bool true),.det undef,.det undef,.det undef,.det (.bool true)] (Pl.nn 8) [0,1,3,7,15,31,63,127] (fun L d=>D d 0 38++([.bool true]++D d 39 25)) (fun L=>[(L0.b 0,RC k),(L3.b 6,GC U),(L3.b 7,T2.GC V)]) hp7 ⟨
  oL 1 0 rG,oR hO1,oN,oM,oS,oS,oS,oP,
  trivial⟩ (fun L7 _ w8 hp8=>?_)
 refine cT ?_
 refine sgsD [.det (.bool true)] [0] [0] (fun L d=>D d 0 6++([.bool true]++D d 7 57)) (fun L=>[(L0.b 0,RC k),(L3.b 6,GC U),(L3.b 7,T2.GC V)]) hp8 ⟨
  oA,
  trivial⟩ (fun L8 _ w9 hp9=>?_)
 refine wp_ret ?_
 refine bodyPost_ret (v:=.bool true) ?_ rfl ?_
 ·exact res_t rfl (by kernel_rfl) _
 ·exact ⟨rfl,hp9.bel⟩
theorem writesotf {G:World→Prop} (K:PtK G) (R:RefK) (k n:Nat) (g1 P A1:Pt F) (g2 Q A2:Pt F2) (U:G1p) (V:T2.G2p) (u v:Bool) (w:World) (hg:G w) (hk6:k<2^256) (hk:k<ordR) (hg1:g1=gen1) (hg2:g2=gen2) (h1:On (4:F) g1) (h2:On b2 g2) (hP:mul finv k g1=P) (hQ:mul F2.inv k g2=Q) (hU:∀ w,Calls Tryz.prog 15 #[.int .u64 ((n:Nat):Int)] w (Ret (.tuple #[GV U,.bool u]) w)) (hV:∀ w,Calls Tryz.prog 16 #[.int .u64 ((n:Nat):Int)] w (Ret (.tuple #[T2.GV V,.bool v]) w)) (hO1:∀ w,Calls Tryz.prog 17 #[GV U] w (Ret (.bool true) w)) (hO2:∀ w,Calls Tryz.prog 18 #[T2.GV V] w (Ret (.bool false) w)) (hA1:gp A1=U) (hA2:T2.gp A2=V):Calls Tryz.prog 3 #[RV k,.int .u64 ((n:Nat):Int),.bool true] w (Ret (.bool true) w):=by
 have hp0:=Heap.start w
 go_enter Tryz.func3,Tryz.ntmps3
 refine sgsD [.alloc (RC k),.det (.bool false)] [0,1] [0,0] (fun L d=>[d 0,.int .u64 ((n:Nat):Int),.bool true,L.p 0]++D d 4 60) (fun L=>[(L.b 0,RC k)]) hp0 ⟨
  oB,oA,
  trivial⟩ (fun L0 _ w1 hp1=>?_)
 refine wp_seq_k (fun K2 k2=>?_)
 refine sgsD [.det (.bool true),.det (.bool false)] [0,1] [0,1] (fun L d=>[d 0,.int .u64 ((n:Nat):Int),.bool true,L0.p 0]++(D d 4 6++([.bool false]++D d 11 53))) (fun L=>[(L0.b 0,RC k)]) hp1 ⟨
  oC K.stay hg (begun10 K R),oN,
  trivial⟩ (fun L1 _ w2 hp2=>?_)
 refine cfk (k2 _ _ ?_)
 refine wp_seq_k (fun K4 k4=>?_)
 refine sgsD [.det (RV k),.det (.bool true),.det (.bool false)] [0,1,2] [0,1,3] (fun L d=>[d 0,.int .u64 ((n:Nat):Int),.bool true,L0.p 0]++(D d 4 9++([.bool false]++D d 14 50))) (fun L=>[(L0.b 0,RC k)]) hp2 ⟨
  oL 0 0 rR,oH (v:=.bool true) (vs:=#[RV k]) (fun w _ _=>by have h:=mayR hk6 w;rw [decide_eq_true hk] at h;exact h),oN,
  trivial⟩ (fun L2 _ w3 hp3=>?_)
 refine cfk (k4 _ _ ?_)
 refine sdrD [.det (GV (gp g1)),.det (RV k),.det (GV (gp P)),.det (T2.GV (T2.gp g2)),.det (RV k),.det (T2.GV (T2.gp Q)),.alloc (GC ⟨0,0,false⟩),.alloc (T2.GC ⟨0,0,false⟩),.store (.new 6) 0 (GC (gp P)) (GC (gp P)),.store (.new 7) 0 (T2.GC (T2.gp Q)) (T2.GC (T2.gp Q))] (Pl.nn 10) [0,0,3,7,0,31,0,0,255,511] (fun L d=>[d 0,.int .u64 ((n:Nat):Int),.bool true]++(D d 3 4++([L.p 6,L.p 7]++D d 9 55))) (fun L=>[(L0.b 0,RC k),(L.b 6,GC (gp P)),(L.b 7,T2.GC (T2.gp Q))]) hp3 ⟨
  oR (by rw [hg1];exact ref5Gen1 R),oL 0 0 rR,oH (v:=GV (gp P)) (vs:=#[GV (gp g1),RV k]) (fun w _ _=>by rw [← hP];exact ref5Times1 R g1 k w h1 hk6),
  oR (by rw [hg2];exact T2.ref5Gen1 R),oL 0 0 rR,oH (v:=T2.GV (T2.gp Q)) (vs:=#[T2.GV (T2.gp g2),RV k]) (fun w _ _=>by rw [← hQ];exact T2.ref5Times1 R g2 k w h2 hk6),
  oZ rG,oZ T2.rG,oT rG,oT T2.rG,
  trivial⟩ (fun L3 _ w4 hp4=>?_)
 refine wp_seq_k (fun K7 k7=>?_)
 refine sgsD [.det (.bool true)] [0] [0] (fun L d=>[d 0,.int .u64 ((n:Nat):Int)]++(D d 2 5++([L3.p 6,L3.p 7]++(D d 9 11++([.bool true]++D d 21 43))))) (fun L=>[(L0.b 0,RC k),(L3.b 6,GC (gp P)),(L3.b 7,T2.GC (T2.gp Q))]) hp4 ⟨
  oM,
  trivial⟩ (fun L4 _ w5 hp5=>?_)
 refine cT ?_
 refine sgsD [.det (.int .u64 ((n:Nat):Int)),.det (.tuple #[GV U,.bool u]),.det (.tuple #[GV U,.bool u]),.det (GV U),.det (.bool u),.store (.base 1) 0 (GC U) (GC U)] (Pl.nn 6) [0,1,3,7,7,15] (fun L d=>[d 0,.int .u64 ((n:Nat):Int)]++(D d 2 5++([L3.p 6,L3.p 7]++D d 9 55))) (fun L=>[(L0.b 0,RC k),(L3.b 6,GC U),(L3.b 7,T2.GC (T2.gp Q))]) hp5 ⟨
  oM,oR hU,oM,oX,oX,oT rG,
  trivial⟩ (fun L5 _ w6 hp6=>?_)
 refine gsD [.det (.int .u64 ((n:Nat):Int)),.det (.tuple #[T2.GV V,.bool v]),.det (.tuple #[T2.GV V,.bool v]),.det (T2.GV V),.det (.bool v),.store (.base 2) 0 (T2.GC V) (T2.GC V)] (Pl.nn 6) [0,1,3,7,7,15] (fun L d=>D d 0 7++([L3.p 6,L3.p 7]++D d 9 55)) (fun L=>[(L0.b 0,RC k),(L3.b 6,GC U),(L3.b 7,T2.GC V)]) hp6 ⟨
  oM,oR hV,oM,oX,oX,oT T2.rG,
  trivial⟩ (fun L6 _ w7 hp7=>?_)
 refine k7 _ _ ?_
 refine wp_seq_k (fun K10 k10=>?_)
 refine sgsD [.det (GV U),.det (.bool true),.det (.bool false),.det (.bool false),.det (T2.GV V),.det (.bool false),.det (.bool true),.det (.bool true)] (Pl.nn 8) [0,1,3,7,15,31,63,127] (fun L d=>D d 0 38++([.bool true]++D d 39 25)) (fun L=>[(L0.b 0,RC k),(L3.b 6,GC U),(L3.b 7,T2.GC V)]) hp7 ⟨
  oL 1 0 rG,oR hO1,oN,oM,oL 2 0 T2.rG,oR hO2,oN,oP,
  trivial⟩ (fun L7 _ w8 hp8=>?_)
 refine cT ?_
 refine sgsD [.det (.bool true)] [0] [0] (fun L d=>D d 0 6++([.bool true]++D d 7 57)) (fun L=>[(L0.b 0,RC k),(L3.b 6,GC U),(L3.b 7,T2.GC V)]) hp8 ⟨
  oA,
  trivial⟩ (fun L8 _ w9 hp9=>?_)
 refine wp_ret ?_
 refine bodyPost_ret (v:=.bool true) ?_ rfl ?_
 ·exact res_t rfl (by kernel_rfl) _
 ·exact ⟨rfl,hp9.bel⟩
end Go.Proofs.YtmibajbpimcfnaaGreatDoor.fpn
/- PointWrites walked. -/
namespace Go.Proofs.YtmibajbpimcfnaaGreatDoor.fpn
open Go.RowKit Pl EC
theorem lb0:val (lb (0:F).val) 6=0:=lbF 0
theorem refOnP (R:RefK) (P:Pt F) (w:World) (hO:On (4:F) P):Calls Tryz.prog 17 #[GV (gp P)] w (Ret (.bool true) w):=by
 cases P with
 | inf =>
  have h:=ref5OnT1 R (lb (0:F).val) (lb (0:F).val) w (lb_rg _ _) (lb_rg _ _) lb0
  rw [decide_eq_true lb0] at h
  exact h
 | aff x y =>
  have h:=ref5OnA R x y w
  rw [decide_eq_true (show y*y=x*x*x+4 from hO)] at h
  exact h
theorem refOn0 (R:RefK) (w:World):Calls Tryz.prog 17 #[GV ⟨0,0,false⟩] w (Ret (.bool false) w):=by
 have h:=ref5OnA R 0 0 w
 rw [decide_eq_false (by decide +kernel)] at h
 exact h
theorem T2.refOnP (R:RefK) (P:Pt F2) (w:World) (hO:On b2 P):Calls Tryz.prog 18 #[T2.GV (T2.gp P)] w (Ret (.bool true) w):=by
 cases P with
 | inf =>
  have z:T2.zero2 (lb (0:F).val) (lb (0:F).val)=true:=by
   unfold T2.zero2
   rw [decide_eq_true lb0];rfl
  have h:=T2.ref5OnT1 R (lb (0:F).val) (lb (0:F).val) (lb (0:F).val) (lb (0:F).val) w (lb_rg _ _) (lb_rg _ _) (lb_rg _ _) (lb_rg _ _) z
  rw [z] at h
  exact h
 | aff x y =>
  have h:=T2.ref5OnA R x y w
  rw [decide_eq_true (show y*y=x*x*x+b2 from hO)] at h
  exact h
theorem T2.refOn0 (R:RefK) (w:World):Calls Tryz.prog 18 #[T2.GV ⟨0,0,false⟩] w (Ret (.bool false) w):=by
 have h:=T2.ref5OnA R 0 0 w
 rw [decide_eq_false (by decide +kernel)] at h
 exact h
theorem mul_on1 (k:Nat):On (4:F) (mul finv k gen1):=mul_on crv1 gen1_on k
theorem mul_on2 (k:Nat):On b2 (mul F2.inv k gen2):=mul_on crv2 gen2_on k
theorem pointWrites_walk {G:World→Prop} (K:PtK G) (R:RefK) (k n:Nat) (out:Bool) (w:World) (hg:G w) (hk6:k<2^256) (hn:n<18446744073709551616):Calls Tryz.prog 3 #[RV k,.int .u64 ((n:Nat):Int),.bool out] w (Ret (.bool true) w):=by
 obtain ⟨U,u,hU,hU'⟩:∃ (U:G1p) (u:Bool),(∀ w,Calls Tryz.prog 15 #[.int .u64 ((n:Nat):Int)] w (Ret (.tuple #[GV U,.bool u]) w))∧(∃ (A:Pt F) (b:Bool),gp A=U∧∀ w,Calls Tryz.prog 17 #[GV U] w (Ret (.bool b) w)):=by
  rcases refOut_or R n hn with ⟨P,hP,h⟩ | h
  ·exact ⟨gp P,true,h,P,true,rfl,fun w=>refOnP R P w hP⟩
  ·exact ⟨_,false,h,.aff 0 0,false,rfl,fun w=>refOn0 R w⟩
 obtain ⟨V,v,hV,hV'⟩:∃ (V:T2.G2p) (v:Bool),(∀ w,Calls Tryz.prog 16 #[.int .u64 ((n:Nat):Int)] w (Ret (.tuple #[T2.GV V,.bool v]) w))∧(∃ (A:Pt F2) (b:Bool),T2.gp A=V∧∀ w,Calls Tryz.prog 18 #[T2.GV V] w (Ret (.bool b) w)):=by
  rcases T2.refOut_or R n hn with ⟨P,hP,h⟩ | h
  ·exact ⟨T2.gp P,true,h,P,true,rfl,fun w=>T2.refOnP R P w hP⟩
  ·exact ⟨_,false,h,.aff 0 0,false,rfl,fun w=>T2.refOn0 R w⟩
 obtain ⟨A1,b1,eA1,hb1⟩:=hU'
 obtain ⟨A2,b2',eA2,hb2⟩:=hV'
 by_cases hk:k<ordR
 ·cases out with
  | false=>exact writesitt K R k n gen1 _ _ gen2 _ _ U V u v w hg hk6 hk rfl rfl gen1_on gen2_on rfl rfl hU hV (fun w=>refOnP R _ w (mul_on1 k)) (fun w=>T2.refOnP R _ w (mul_on2 k)) rfl rfl
  | true =>
   cases b1 with
   | false=>exact writesof K R k n gen1 _ A1 gen2 _ A2 U V u v w hg hk6 hk rfl rfl gen1_on gen2_on rfl rfl hU hV hb1 eA1 eA2
   | true =>
    cases b2' with
    | false=>exact writesotf K R k n gen1 _ A1 gen2 _ A2 U V u v w hg hk6 hk rfl rfl gen1_on gen2_on rfl rfl hU hV hb1 hb2 eA1 eA2
    | true=>exact writesott K R k n gen1 _ A1 gen2 _ A2 U V u v w hg hk6 hk rfl rfl gen1_on gen2_on rfl rfl hU hV hb1 hb2 eA1 eA2
 ·cases out with
  | false=>exact writes0i K R k n gen1 _ _ gen2 _ _ U V u v w hg hk6 hk rfl rfl gen1_on gen2_on rfl rfl hU hV rfl rfl
  | true=>exact writes0o K R k n gen1 _ A1 gen2 _ A2 U V u v w hg hk6 hk rfl rfl gen1_on gen2_on rfl rfl hU hV eA1 eA2
end Go.Proofs.YtmibajbpimcfnaaGreatDoor.fpn
