/- Texts laid together. -/
import Derived.Test.YtmibajbpimcfnaaGreatDoorQA
import Derived.Test.YtmibajbpimcfnaaGreatDoorGX
import Derived.Test.YtmibajbpimcfnaaGreatDoorGZ
import Derived.Test.YtmibajbpimcfnaaGreatDoorGID
import Derived.Test.YtmibajbpimcfnaaGreatDoorGQ
import Derived.Test.YtmibajbpimcfnaaGreatDoorGE
set_option linter.unusedVariables false
set_option linter.unusedSimpArgs false
set_option maxRecDepth 4000
set_option maxHeartbeats 4000000
/- Package point: what it writes. -/
namespace Go.Proofs.YtmibajbpimcfnaaGreatDoor.fpn
open Go.RowKit Pl EC
theorem orYp (t:TypeId) (a b c:Int) (h:bits .or .u8 a b=c) (w:World):(binOp .or t (.int .u8 a) (.int .u8 b)).run Tryz.prog w=.ok (.int .u8 c) w:=by
 simp [binOp,Sem.run_bind,Op.intBits]
 exact h
theorem infText48  (w:World):Calls Tryz.prog 47 #[.int .i64 48] w (RetB (ptx .inf) 48 w):=by
 have fin0:BC (su (fun _=>0) 0 192) 48=BC (ptx .inf) 48:=by subst_vars;kernel_rfl
 have hp0:=Heap.start w
 go_enter Tryz.func47,Tryz.ntmps47
 refine sgsD [.det (.slice none 0 0)] [0] [0] (fun L d=>[.int .i64 48]++D d 1 8) (fun L=>[]) hp0 ⟨
  oA,
  trivial⟩ (fun L0 d0 w1 hp1=>?_)
 refine sgsD [.det (.int .i64 48),.alloc (BC (fun _=>0) 48),.detB 1 (fun b=>.slice (some ⟨b,0,none⟩) 48 48)] [0,1,2] [0,1,3] (fun L d=>D d 0 3++([.slice (some ⟨L.b 1,0,none⟩) 48 48]++D d 4 5)) (fun L=>[(L.b 1,BC (fun _=>0) 48)]) hp1 ⟨
  oM,oMa (by decide) (by decide),oAN,
  trivial⟩ (fun L1 d1 w2 hp2=>?_)
 refine sgsD [.det (.slice (some ⟨(L1.b 1),0,none⟩) 48 48),.det (L1.p 1),.store (.base 0) 0 ([.int .u8 192]) (BC (su (fun _=>0) 0 192) 48)] [0,1,2] [0,1,3] (fun L d=>D d 0 3++([.slice (some ⟨(L1.b 1),0,none⟩) 48 48]++D d 4 5)) (fun L=>[(L1.b 1,BC (su (fun _=>0) 0 192) 48)]) hp2 ⟨
  oM,oIS (b:=(L1.b 1)) (off:=0) (n:=48) (c:=48) (sz:=1) 0 Tryz.underlying45 sizeY (by decide),oT1 oneY,
  trivial⟩ (fun L2 d2 w3 hp3=>?_)
 refine sgsD [.det (.slice (some ⟨(L1.b 1),0,none⟩) 48 48),.det (.slice (some ⟨(L1.b 1),0,none⟩) 48 48)] [0,1] [0,1] (fun L d=>D d 0 2++([.slice (some ⟨(L1.b 1),0,none⟩) 48 48]++D d 3 6)) (fun L=>[(L1.b 1,BC (su (fun _=>0) 0 192) 48)]) hp3 ⟨
  oM,oA,
  trivial⟩ (fun L3 d3 w4 hp4=>?_)
 refine wp_ret ?_
 refine bodyPost_ret (v:=.slice (some ⟨(L1.b 1),0,none⟩) 48 48) ?_ rfl ?_
 ·exact res_t rfl (by kernel_rfl) _
 ·exact ⟨_,rfl,⟨(L1.b 1),48,rfl,Nat.le_refl _,by decide,(hp4.bound 0 rfl).1,(fun b hb=>by cases hb),box_eq fin0 (hp4.bound 0 rfl).2⟩,hp4.bel⟩
theorem infText96  (w:World):Calls Tryz.prog 47 #[.int .i64 96] w (RetB (T2.ptx2 .inf) 96 w):=by
 have fin0:BC (su (fun _=>0) 0 192) 96=BC (T2.ptx2 .inf) 96:=by subst_vars;kernel_rfl
 have hp0:=Heap.start w
 go_enter Tryz.func47,Tryz.ntmps47
 refine sgsD [.det (.slice none 0 0)] [0] [0] (fun L d=>[.int .i64 96]++D d 1 8) (fun L=>[]) hp0 ⟨
  oA,
  trivial⟩ (fun L0 d0 w1 hp1=>?_)
 refine sgsD [.det (.int .i64 96),.alloc (BC (fun _=>0) 96),.detB 1 (fun b=>.slice (some ⟨b,0,none⟩) 96 96)] [0,1,2] [0,1,3] (fun L d=>D d 0 3++([.slice (some ⟨L.b 1,0,none⟩) 96 96]++D d 4 5)) (fun L=>[(L.b 1,BC (fun _=>0) 96)]) hp1 ⟨
  oM,oMa (by decide) (by decide),oAN,
  trivial⟩ (fun L1 d1 w2 hp2=>?_)
 refine sgsD [.det (.slice (some ⟨(L1.b 1),0,none⟩) 96 96),.det (L1.p 1),.store (.base 0) 0 ([.int .u8 192]) (BC (su (fun _=>0) 0 192) 96)] [0,1,2] [0,1,3] (fun L d=>D d 0 3++([.slice (some ⟨(L1.b 1),0,none⟩) 96 96]++D d 4 5)) (fun L=>[(L1.b 1,BC (su (fun _=>0) 0 192) 96)]) hp2 ⟨
  oM,oIS (b:=(L1.b 1)) (off:=0) (n:=96) (c:=96) (sz:=1) 0 Tryz.underlying45 sizeY (by decide),oT1 oneY,
  trivial⟩ (fun L2 d2 w3 hp3=>?_)
 refine sgsD [.det (.slice (some ⟨(L1.b 1),0,none⟩) 96 96),.det (.slice (some ⟨(L1.b 1),0,none⟩) 96 96)] [0,1] [0,1] (fun L d=>D d 0 2++([.slice (some ⟨(L1.b 1),0,none⟩) 96 96]++D d 3 6)) (fun L=>[(L1.b 1,BC (su (fun _=>0) 0 192) 96)]) hp3 ⟨
  oM,oA,
  trivial⟩ (fun L3 d3 w4 hp4=>?_)
 refine wp_ret ?_
 refine bodyPost_ret (v:=.slice (some ⟨(L1.b 1),0,none⟩) 96 96) ?_ rfl ?_
 ·exact res_t rfl (by kernel_rfl) _
 ·exact ⟨_,rfl,⟨(L1.b 1),96,rfl,Nat.le_refl _,by decide,(hp4.bound 0 rfl).1,(fun b hb=>by cases hb),box_eq fin0 (hp4.bound 0 rfl).2⟩,hp4.bel⟩
theorem placeText1 (gr:Bool) (x:F) (q:Nat) (w:World) (hx0:w.rangeAt q 0 (FC x)):Calls Tryz.prog 48 #[.bool gr,.slice (some ⟨q,0,none⟩) 1 1] w (RetB (su (pb x) 0 (pb x 0+(bif gr then 160 else 128))) 48 w):=by
 have fin0:(gr)=true→BC (su (pb x) 0 (pb x 0+160)) 48=BC (su (pb x) 0 (pb x 0+(bif gr then 160 else 128))) 48:=by subst_vars;intro h1q;show _=BC (su (pb x) 0 (pb x 0+(bif gr then 160 else 128))) 48;rw [h1q];kernel_rfl
 have fin1:(gr)=false→BC (su (pb x) 0 (pb x 0+128)) 48=BC (su (pb x) 0 (pb x 0+(bif gr then 160 else 128))) 48:=by subst_vars;intro h1q;show _=BC (su (pb x) 0 (pb x 0+(bif gr then 160 else 128))) 48;rw [h1q];kernel_rfl
 have hp0:=Heap.start w
 go_enter Tryz.func48,Tryz.ntmps48
 refine sgsD [.det (.slice none 0 0)] [0] [0] (fun L d=>[.bool gr,.slice (some ⟨q,0,none⟩) 1 1,undef,undef,d 4]++U 26) (fun L=>[]) hp0 ⟨
  oA,
  trivial⟩ (fun L0 d0 w1 hp1=>?_)
 refine sgs [.det (.slice none 0 0)] [0] [0] (fun L=>[.bool gr,.slice (some ⟨q,0,none⟩) 1 1,undef,undef,d0 4,.slice none 0 0]++U 25) (fun L=>[]) hp1 ⟨
  oA,
  trivial⟩ (fun L1 w2 hp2=>?_)
 refine wp_seq_k (fun K3 k3=>?_)
 refine sgsD [.det (.slice (some ⟨q,0,none⟩) 1 1),.det (.int .i64 1),.det (.int .i64 0)] [0,1,2] [0,1,0] (fun L d=>[.bool gr,d 1,undef,undef,d 4,.slice none 0 0,undef,undef,.slice (some ⟨q,0,none⟩) 1 1,.int .i64 1,.int .i64 0]++U 20) (fun L=>[]) hp2 ⟨
  oM,fun h=>⟨ob_len (p:=(some ⟨q,0,none⟩)) (n:=1) (c:=1) (fun _=>rfl) h rfl (fun _=>by kernel_rfl) Tryz.underlying83⟩,oM,
  trivial⟩ (fun L2 d2 w3 hp3=>?_)
 refine wp_block_k (fun K5 k5=>?_)
 refine wp_loop_rounds 9 ?_
 refine rounds_k (fun K6 k6=>?_)
 refine sgs [.det (.bool true)] [0] [0] (fun L=>[.bool gr,d2 1,undef,undef,d2 4,.slice none 0 0,undef,undef,.slice (some ⟨q,0,none⟩) 1 1,.int .i64 1,.int .i64 0,.bool true]++U 19) (fun L=>[]) hp3 ⟨
  oJ .i64 .i64 0 1,
  trivial⟩ (fun L3 w4 hp4=>?_)
 refine wp_seq_k (fun K8 k8=>?_)
 refine cT ?_
 refine skips ?_
 refine k8 _ _ ?_
 refine wp_seq_k (fun K9 k9=>?_)
 refine wp_block_k (fun K10 k10=>?_)
 refine sgsD [.det (pt q 0),.det (FV x),.alloc (FC 0),.store (.new 2) 0 (FC x) (FC x)] [0,1,2,3] [0,1,0,7] (fun L d=>[.bool gr,d 1,undef,undef,d 4,.slice none 0 0,undef,L.p 2,d 8,.int .i64 1,.int .i64 0]++(D d 11 3++U 17)) (fun L=>[(L.b 2,FC x)]) hp4 ⟨
  oIS (b:=q) (off:=0) (n:=1) (c:=1) (sz:=6) 0 Tryz.underlying83 rF.size (by decide),oG rF (fun _ w hs=>(rangeF hx0 hs.bel)),oZ rF,oT rF,
  trivial⟩ (fun L4 d4 w5 hp5=>?_)
 refine wp_region_list ?_
 refine gsC 3 [.det (.slice none 0 0),.det (FV x),.any (isB w.heap.size [L4.b 2] (pb x) 48)] [0,1,2] [0,1,3] (fun L d=>[.bool gr]++(D d 1 8++([.int .i64 1,.int .i64 0]++(D d 11 3++([.slice none 0 0,d 15,L.v 2,undef]++D d 18 13))))) (fun L=>[(L4.b 2,FC x)]) hp5 ⟨
  oM,oL 0 0 rF,oY (fun L=>#[FV x]) (fun _ _ _ h hb=>h.stay hb) (fun L w hs=>newB hs [L4.b 2] (fpPutB x w)),
  trivial⟩ (fun L5 d5 w6 hp6 ha6=>?_)
 obtain ⟨kp,cp,ep,lp,mp,-,-,bp⟩:=AnyF.at (ha6 (by kernel_rfl)) (j:=2) rfl rfl
 rw [ep]
 refine oneL rfl rfl (wp_appendY (B:=w.heap.size) (ad:=⟨kp,0,none⟩) (n:=48) (c:=cp) (.tmp 14) (.tmp 16) rfl (by kernel_rfl) (OwnY.nil (f:=fun _=>0)) (by kernel_rfl) (fun j hj=>by rw [Addr.add_mid];exact bp.cells j _ (BC_at hj)) (by decide) hp6.le (fun vA0 xA0 pA0 bA0=>?_))
 have pA0:OwnY xA0 w.heap.size vA0 (pb x) 48:=pA0.congr fun j _=>rfl
 have hA0:Below w.heap.size w xA0:=hp6.bel.trans bA0
 obtain ⟨kbA0,cbA0,rfl,lbA0,mbA0,qbA0,xbA0⟩:=OwnY.box pA0 (by decide)
 have oA0:=pA0
 have hpA0:=Heap.one hA0 qbA0 hA0.size xbA0
 refine gsC 1 [.det (.slice (some ⟨kbA0,0,none⟩) 48 cbA0)] [0] [0] (fun L d=>[.bool gr]++(D d 1 4++([.slice (some ⟨kbA0,0,none⟩) 48 cbA0]++(D d 6 3++([.int .i64 1,.int .i64 0]++D d 11 20))))) (fun L=>[(kbA0,BC (pb x) 48)]) hpA0 ⟨
  oA,
  trivial⟩ (fun L6 d6 w7 hp7 ha7=>?_)
 refine wpList_nil ?_
 refine k10 _ _ _ ?_
 refine block_normal ?_
 refine k9 _ _ ?_
 refine gsD [.det (.int .i64 1),.det (.int .i64 1)] [0,1] [0,1] (fun L d=>[.bool gr]++(D d 1 4++([.slice (some ⟨kbA0,0,none⟩) 48 cbA0]++(D d 6 3++([.int .i64 1,.int .i64 1]++D d 11 20))))) (fun L=>[(kbA0,BC (pb x) 48)]) hp7 ⟨
  oJ .i64 .i64 0 1,oM,
  trivial⟩ (fun L7 d7 w8 hp8=>?_)
 refine k6 _ _ _ ?_
 refine then_normal ?_
 refine rounds_k (fun K12 k12=>?_)
 refine sgsD [.det (.bool false)] [0] [0] (fun L d=>[.bool gr]++(D d 1 4++([.slice (some ⟨kbA0,0,none⟩) 48 cbA0]++(D d 6 5++([.bool false]++D d 12 19))))) (fun L=>[(kbA0,BC (pb x) 48)]) hp8 ⟨
  oJ .i64 .i64 1 1,
  trivial⟩ (fun L8 d8 w9 hp9=>?_)
 refine wp_seq_k (fun K14 k14=>?_)
 refine cF ?_
 refine wp_exit ?_
 refine then_exit ?_
 refine k12 _ _ _ ?_
 refine then_exit ?_
 refine k5 _ _ _ ?_
 refine exit_in ?_
 refine k3 _ _ ?_
 refine sgsD [.det (.slice (some ⟨kbA0,0,none⟩) 48 cbA0),.det (pt kbA0 0),.det (.int .u8 (pb x 0)),.det (.int .u8 (pb x 0+128)),.det (pt kbA0 0),.store (.base 0) 0 ([.int .u8 (pb x 0+128)]) (BC (su (pb x) 0 (pb x 0+128)) 48)] (nn 6) [0,1,3,7,15,31] (fun L d=>[.bool gr]++(D d 1 4++([.slice (some ⟨kbA0,0,none⟩) 48 cbA0]++D d 6 25))) (fun L=>[(kbA0,BC (su (pb x) 0 (pb x 0+128)) 48)]) hp9 ⟨
  oM,oIS (b:=kbA0) (off:=0) (n:=48) (c:=cbA0) (sz:=1) 0 Tryz.underlying45 sizeY (by decide),oL1 0 0 oneY,oJ .u8 .u8 (pb x 0) 128 (h:=fun w=>orYp _ _ _ _ (or128 (pb_top x).1 (pb_top x).2) w),
  oIS (b:=kbA0) (off:=0) (n:=48) (c:=cbA0) (sz:=1) 0 Tryz.underlying45 sizeY (by decide),oT1 oneY,
  trivial⟩ (fun L9 d9 w10 hp10=>?_)
 refine wp_seq_k (fun K16 k16=>?_)
 refine sgsD [.det (.bool gr)] [0] [0] (fun L d=>D d 0 5++([.slice (some ⟨kbA0,0,none⟩) 48 cbA0]++(D d 6 18++([.bool gr]++D d 25 6)))) (fun L=>[(kbA0,BC (su (pb x) 0 (pb x 0+128)) 48)]) hp10 ⟨
  oM,
  trivial⟩ (fun L10 d10 w11 hp11=>?_)
 rcases Bool.eq_false_or_eq_true (gr) with h1q | h1q
 ·skip
  refine cond_t h1q ?_
  refine gsD [.det (.slice (some ⟨kbA0,0,none⟩) 48 cbA0),.det (pt kbA0 0),.det (.int .u8 (pb x 0+128)),.det (.int .u8 (pb x 0+160)),.det (pt kbA0 0),.store (.base 0) 0 ([.int .u8 (pb x 0+160)]) (BC (su (pb x) 0 (pb x 0+160)) 48)] (nn 6) [0,1,3,7,15,31] (fun L d=>D d 0 5++([.slice (some ⟨kbA0,0,none⟩) 48 cbA0]++D d 6 25)) (fun L=>[(kbA0,BC (su (pb x) 0 (pb x 0+160)) 48)]) hp11 ⟨
   oM,oIS (b:=kbA0) (off:=0) (n:=48) (c:=cbA0) (sz:=1) 0 Tryz.underlying45 sizeY (by decide),oL1 0 0 oneY,oJ .u8 .u8 (pb x 0+128) 32 (h:=fun w=>orYp _ _ _ _ (or160 (pb_top x).1 (pb_top x).2) w),
   oIS (b:=kbA0) (off:=0) (n:=48) (c:=cbA0) (sz:=1) 0 Tryz.underlying45 sizeY (by decide),oT1 oneY,
   trivial⟩ (fun L11 d11 w12 hp12=>?_)
  refine k16 _ _ ?_
  refine sgsD [.det (.slice (some ⟨kbA0,0,none⟩) 48 cbA0),.det (.slice (some ⟨kbA0,0,none⟩) 48 cbA0)] [0,1] [0,1] (fun L d=>D d 0 4++([.slice (some ⟨kbA0,0,none⟩) 48 cbA0]++D d 5 26)) (fun L=>[(kbA0,BC (su (pb x) 0 (pb x 0+160)) 48)]) hp12 ⟨
   oM,oA,
   trivial⟩ (fun L12 d12 w13 hp13=>?_)
  refine wp_ret ?_
  refine bodyPost_ret (v:=.slice (some ⟨kbA0,0,none⟩) 48 cbA0) ?_ rfl ?_
  ·exact res_t rfl (by kernel_rfl) _
  ·exact ⟨_,rfl,⟨kbA0,cbA0,rfl,lbA0,mbA0,qbA0,(fun b hb=>by cases hb),box_eq (fin0 h1q) (hp13.bound 0 rfl).2⟩,hp13.bel⟩
 ·skip
  refine cond_f h1q ?_
  refine skips ?_
  refine k16 _ _ ?_
  refine sgsD [.det (.slice (some ⟨kbA0,0,none⟩) 48 cbA0),.det (.slice (some ⟨kbA0,0,none⟩) 48 cbA0)] [0,1] [0,1] (fun L d=>D d 0 4++([.slice (some ⟨kbA0,0,none⟩) 48 cbA0]++D d 5 26)) (fun L=>[(kbA0,BC (su (pb x) 0 (pb x 0+128)) 48)]) hp11 ⟨
   oM,oA,
   trivial⟩ (fun L11 d11 w12 hp12=>?_)
  refine wp_ret ?_
  refine bodyPost_ret (v:=.slice (some ⟨kbA0,0,none⟩) 48 cbA0) ?_ rfl ?_
  ·exact res_t rfl (by kernel_rfl) _
  ·exact ⟨_,rfl,⟨kbA0,cbA0,rfl,lbA0,mbA0,qbA0,(fun b hb=>by cases hb),box_eq (fin1 h1q) (hp12.bound 0 rfl).2⟩,hp12.bel⟩
theorem placeText2 (gr:Bool) (x y:F) (q:Nat) (w:World) (hx0:w.rangeAt q 0 (FC x)) (hx1:w.rangeAt q 6 (FC y)):Calls Tryz.prog 48 #[.bool gr,.slice (some ⟨q,0,none⟩) 2 2] w (RetB (su (cat (pb x) 48 (pb y)) 0 (pb x 0+(bif gr then 160 else 128))) 96 w):=by
 have fin0:(gr)=true→BC (su (cat (pb x) 48 (pb y)) 0 (pb x 0+160)) 96=BC (su (cat (pb x) 48 (pb y)) 0 (pb x 0+(bif gr then 160 else 128))) 96:=by subst_vars;intro h1q;show _=BC (su (cat (pb x) 48 (pb y)) 0 (pb x 0+(bif gr then 160 else 128))) 96;rw [h1q];kernel_rfl
 have fin1:(gr)=false→BC (su (cat (pb x) 48 (pb y)) 0 (pb x 0+128)) 96=BC (su (cat (pb x) 48 (pb y)) 0 (pb x 0+(bif gr then 160 else 128))) 96:=by subst_vars;intro h1q;show _=BC (su (cat (pb x) 48 (pb y)) 0 (pb x 0+(bif gr then 160 else 128))) 96;rw [h1q];kernel_rfl
 have hp0:=Heap.start w
 go_enter Tryz.func48,Tryz.ntmps48
 refine sgsD [.det (.slice none 0 0)] [0] [0] (fun L d=>[.bool gr,.slice (some ⟨q,0,none⟩) 2 2,undef,undef,d 4]++U 26) (fun L=>[]) hp0 ⟨
  oA,
  trivial⟩ (fun L0 d0 w1 hp1=>?_)
 refine sgs [.det (.slice none 0 0)] [0] [0] (fun L=>[.bool gr,.slice (some ⟨q,0,none⟩) 2 2,undef,undef,d0 4,.slice none 0 0]++U 25) (fun L=>[]) hp1 ⟨
  oA,
  trivial⟩ (fun L1 w2 hp2=>?_)
 refine wp_seq_k (fun K3 k3=>?_)
 refine sgsD [.det (.slice (some ⟨q,0,none⟩) 2 2),.det (.int .i64 2),.det (.int .i64 0)] [0,1,2] [0,1,0] (fun L d=>[.bool gr,d 1,undef,undef,d 4,.slice none 0 0,undef,undef,.slice (some ⟨q,0,none⟩) 2 2,.int .i64 2,.int .i64 0]++U 20) (fun L=>[]) hp2 ⟨
  oM,fun h=>⟨ob_len (p:=(some ⟨q,0,none⟩)) (n:=2) (c:=2) (fun _=>rfl) h rfl (fun _=>by kernel_rfl) Tryz.underlying83⟩,oM,
  trivial⟩ (fun L2 d2 w3 hp3=>?_)
 refine wp_block_k (fun K5 k5=>?_)
 refine wp_loop_rounds 9 ?_
 refine rounds_k (fun K6 k6=>?_)
 refine sgs [.det (.bool true)] [0] [0] (fun L=>[.bool gr,d2 1,undef,undef,d2 4,.slice none 0 0,undef,undef,.slice (some ⟨q,0,none⟩) 2 2,.int .i64 2,.int .i64 0,.bool true]++U 19) (fun L=>[]) hp3 ⟨
  oJ .i64 .i64 0 2,
  trivial⟩ (fun L3 w4 hp4=>?_)
 refine wp_seq_k (fun K8 k8=>?_)
 refine cT ?_
 refine skips ?_
 refine k8 _ _ ?_
 refine wp_seq_k (fun K9 k9=>?_)
 refine wp_block_k (fun K10 k10=>?_)
 refine sgsD [.det (pt q 0),.det (FV x),.alloc (FC 0),.store (.new 2) 0 (FC x) (FC x)] [0,1,2,3] [0,1,0,7] (fun L d=>[.bool gr,d 1,undef,undef,d 4,.slice none 0 0,undef,L.p 2,.slice (some ⟨q,0,none⟩) 2 2,.int .i64 2,.int .i64 0]++(D d 11 3++U 17)) (fun L=>[(L.b 2,FC x)]) hp4 ⟨
  oIS (b:=q) (off:=0) (n:=2) (c:=2) (sz:=6) 0 Tryz.underlying83 rF.size (by decide),oG rF (fun _ w hs=>(rangeF hx0 hs.bel)),oZ rF,oT rF,
  trivial⟩ (fun L4 d4 w5 hp5=>?_)
 refine wp_region_list ?_
 refine gsC 3 [.det (.slice none 0 0),.det (FV x),.any (isB w.heap.size [L4.b 2] (pb x) 48)] [0,1,2] [0,1,3] (fun L d=>[.bool gr]++(D d 1 7++([.slice (some ⟨q,0,none⟩) 2 2,.int .i64 2,.int .i64 0]++(D d 11 3++([.slice none 0 0,d 15,L.v 2,undef]++D d 18 13))))) (fun L=>[(L4.b 2,FC x)]) hp5 ⟨
  oM,oL 0 0 rF,oY (fun L=>#[FV x]) (fun _ _ _ h hb=>h.stay hb) (fun L w hs=>newB hs [L4.b 2] (fpPutB x w)),
  trivial⟩ (fun L5 d5 w6 hp6 ha6=>?_)
 obtain ⟨kp,cp,ep,lp,mp,-,-,bp⟩:=AnyF.at (ha6 (by kernel_rfl)) (j:=2) rfl rfl
 rw [ep]
 refine oneL rfl rfl (wp_appendY (B:=w.heap.size) (ad:=⟨kp,0,none⟩) (n:=48) (c:=cp) (.tmp 14) (.tmp 16) rfl (by kernel_rfl) (OwnY.nil (f:=fun _=>0)) (by kernel_rfl) (fun j hj=>by rw [Addr.add_mid];exact bp.cells j _ (BC_at hj)) (by decide) hp6.le (fun vA0 xA0 pA0 bA0=>?_))
 have pA0:OwnY xA0 w.heap.size vA0 (pb x) 48:=pA0.congr fun j _=>rfl
 have hA0:Below w.heap.size w xA0:=hp6.bel.trans bA0
 obtain ⟨kbA0,cbA0,rfl,lbA0,mbA0,qbA0,xbA0⟩:=OwnY.box pA0 (by decide)
 have oA0:=pA0
 have hpA0:=Heap.start xA0
 have hx0:=rangeF hx0 hA0
 have hx1:=rangeF hx1 hA0
 refine gsC 1 [.det (.slice (some ⟨kbA0,0,none⟩) 48 cbA0)] [0] [0] (fun L d=>[.bool gr]++(D d 1 4++([.slice (some ⟨kbA0,0,none⟩) 48 cbA0]++(D d 6 2++([.slice (some ⟨q,0,none⟩) 2 2,.int .i64 2,.int .i64 0]++(D d 11 6++([.slice (some ⟨kbA0,0,none⟩) 48 cbA0]++D d 18 13))))))) (fun L=>[]) hpA0 ⟨
  oA,
  trivial⟩ (fun L6 d6 w7 hp7 ha7=>?_)
 refine wpList_nil ?_
 refine k10 _ _ _ ?_
 refine block_normal ?_
 refine k9 _ _ ?_
 refine gsD [.det (.int .i64 1),.det (.int .i64 1)] [0,1] [0,1] (fun L d=>[.bool gr]++(D d 1 4++([.slice (some ⟨kbA0,0,none⟩) 48 cbA0]++(D d 6 2++([.slice (some ⟨q,0,none⟩) 2 2,.int .i64 2,.int .i64 1]++(D d 11 6++([.slice (some ⟨kbA0,0,none⟩) 48 cbA0]++D d 18 13))))))) (fun L=>[]) hp7 ⟨
  oJ .i64 .i64 0 1,oM,
  trivial⟩ (fun L7 d7 w8 hp8=>?_)
 refine k6 _ _ _ ?_
 refine then_normal ?_
 refine rounds_k (fun K12 k12=>?_)
 refine sgs [.det (.bool true)] [0] [0] (fun L=>[.bool gr]++(D d7 1 4++([.slice (some ⟨kbA0,0,none⟩) 48 cbA0]++(D d7 6 2++([.slice (some ⟨q,0,none⟩) 2 2,.int .i64 2,.int .i64 1,.bool true]++(D d7 12 5++([.slice (some ⟨kbA0,0,none⟩) 48 cbA0]++D d7 18 13))))))) (fun L=>[]) hp8 ⟨
  oJ .i64 .i64 1 2,
  trivial⟩ (fun L8 w9 hp9=>?_)
 refine wp_seq_k (fun K14 k14=>?_)
 refine cT ?_
 refine skips ?_
 refine k14 _ _ ?_
 refine wp_seq_k (fun K15 k15=>?_)
 refine wp_block_k (fun K16 k16=>?_)
 refine sgsD [.det (pt q 6),.det (FV y),.alloc (FC 0),.store (.new 2) 0 (FC y) (FC y)] [0,1,2,3] [0,1,0,7] (fun L d=>[.bool gr]++(D d 1 4++([.slice (some ⟨kbA0,0,none⟩) 48 cbA0,d 6,L.p 2,d 8,.int .i64 2,.int .i64 1]++(D d 11 6++([.slice (some ⟨kbA0,0,none⟩) 48 cbA0]++D d 18 13))))) (fun L=>[(L.b 2,FC y)]) hp9 ⟨
  oIS (b:=q) (off:=0) (n:=2) (c:=2) (sz:=6) 1 Tryz.underlying83 rF.size (by decide),oG rF (fun _ w hs=>(rangeF hx1 hs.bel)),oZ rF,oT rF,
  trivial⟩ (fun L9 d9 w10 hp10=>?_)
 refine wp_region_list ?_
 refine gsC 3 [.det (.slice (some ⟨kbA0,0,none⟩) 48 cbA0),.det (FV y),.any (isB xA0.heap.size [L9.b 2] (pb y) 48)] [0,1,2] [0,1,3] (fun L d=>[.bool gr]++(D d 1 8++([.int .i64 2,.int .i64 1]++(D d 11 3++([.slice (some ⟨kbA0,0,none⟩) 48 cbA0,d 15,L.v 2,.slice (some ⟨kbA0,0,none⟩) 48 cbA0]++D d 18 13))))) (fun L=>[(L9.b 2,FC y)]) hp10 ⟨
  oM,oL 0 0 rF,oY (fun L=>#[FV y]) (fun _ _ _ h hb=>h.stay hb) (fun L w hs=>newB hs [L9.b 2] (fpPutB y w)),
  trivial⟩ (fun L10 d10 w11 hp11 ha11=>?_)
 obtain ⟨kp,cp,ep,lp,mp,-,-,bp⟩:=AnyF.at (ha11 (by kernel_rfl)) (j:=2) rfl rfl
 rw [ep]
 refine oneL rfl rfl (wp_appendY (B:=w.heap.size) (ad:=⟨kp,0,none⟩) (n:=48) (c:=cp) (.tmp 14) (.tmp 16) rfl (by kernel_rfl) (oA0.below hp11.bel) (by kernel_rfl) (fun j hj=>by rw [Addr.add_mid];exact bp.cells j _ (BC_at hj)) (by decide) (Nat.le_trans hA0.size hp11.le) (fun vA1 xA1 pA1 bA1=>?_))
 have pA1:OwnY xA1 w.heap.size vA1 (cat (pb x) 48 (pb y)) 96:=pA1
 have hA1:Below w.heap.size w xA1:=(hA0.trans (hp11.bel.mono hA0.size)).trans bA1
 obtain ⟨kbA1,cbA1,rfl,lbA1,mbA1,qbA1,xbA1⟩:=OwnY.box pA1 (by decide)
 have oA1:=pA1
 have hpA1:=Heap.one hA1 qbA1 hA1.size xbA1
 refine gsC 1 [.det (.slice (some ⟨kbA1,0,none⟩) 96 cbA1)] [0] [0] (fun L d=>[.bool gr]++(D d 1 4++([.slice (some ⟨kbA1,0,none⟩) 96 cbA1]++(D d 6 3++([.int .i64 2,.int .i64 1]++D d 11 20))))) (fun L=>[(kbA1,BC (cat (pb x) 48 (pb y)) 96)]) hpA1 ⟨
  oA,
  trivial⟩ (fun L11 d11 w12 hp12 ha12=>?_)
 refine wpList_nil ?_
 refine k16 _ _ _ ?_
 refine block_normal ?_
 refine k15 _ _ ?_
 refine gsD [.det (.int .i64 2),.det (.int .i64 2)] [0,1] [0,1] (fun L d=>[.bool gr]++(D d 1 4++([.slice (some ⟨kbA1,0,none⟩) 96 cbA1]++(D d 6 3++([.int .i64 2,.int .i64 2]++D d 11 20))))) (fun L=>[(kbA1,BC (cat (pb x) 48 (pb y)) 96)]) hp12 ⟨
  oJ .i64 .i64 1 1,oM,
  trivial⟩ (fun L12 d12 w13 hp13=>?_)
 refine k12 _ _ _ ?_
 refine then_normal ?_
 refine rounds_k (fun K18 k18=>?_)
 refine sgsD [.det (.bool false)] [0] [0] (fun L d=>[.bool gr]++(D d 1 4++([.slice (some ⟨kbA1,0,none⟩) 96 cbA1]++(D d 6 5++([.bool false]++D d 12 19))))) (fun L=>[(kbA1,BC (cat (pb x) 48 (pb y)) 96)]) hp13 ⟨
  oJ .i64 .i64 2 2,
  trivial⟩ (fun L13 d13 w14 hp14=>?_)
 refine wp_seq_k (fun K20 k20=>?_)
 refine cF ?_
 refine wp_exit ?_
 refine then_exit ?_
 refine k18 _ _ _ ?_
 refine then_exit ?_
 refine k5 _ _ _ ?_
 refine exit_in ?_
 refine k3 _ _ ?_
 refine sgsD [.det (.slice (some ⟨kbA1,0,none⟩) 96 cbA1),.det (pt kbA1 0),.det (.int .u8 (pb x 0)),.det (.int .u8 (pb x 0+128)),.det (pt kbA1 0),.store (.base 0) 0 ([.int .u8 (pb x 0+128)]) (BC (su (cat (pb x) 48 (pb y)) 0 (pb x 0+128)) 96)] (nn 6) [0,1,3,7,15,31] (fun L d=>[.bool gr]++(D d 1 4++([.slice (some ⟨kbA1,0,none⟩) 96 cbA1]++D d 6 25))) (fun L=>[(kbA1,BC (su (cat (pb x) 48 (pb y)) 0 (pb x 0+128)) 96)]) hp14 ⟨
  oM,oIS (b:=kbA1) (off:=0) (n:=96) (c:=cbA1) (sz:=1) 0 Tryz.underlying45 sizeY (by decide),oL1 0 0 oneY,oJ .u8 .u8 (pb x 0) 128 (h:=fun w=>orYp _ _ _ _ (or128 (pb_top x).1 (pb_top x).2) w),
  oIS (b:=kbA1) (off:=0) (n:=96) (c:=cbA1) (sz:=1) 0 Tryz.underlying45 sizeY (by decide),oT1 oneY,
  trivial⟩ (fun L14 d14 w15 hp15=>?_)
 refine wp_seq_k (fun K22 k22=>?_)
 refine sgsD [.det (.bool gr)] [0] [0] (fun L d=>D d 0 5++([.slice (some ⟨kbA1,0,none⟩) 96 cbA1]++(D d 6 18++([.bool gr]++D d 25 6)))) (fun L=>[(kbA1,BC (su (cat (pb x) 48 (pb y)) 0 (pb x 0+128)) 96)]) hp15 ⟨
  oM,
  trivial⟩ (fun L15 d15 w16 hp16=>?_)
 rcases Bool.eq_false_or_eq_true (gr) with h1q | h1q
 ·skip
  refine cond_t h1q ?_
  refine gsD [.det (.slice (some ⟨kbA1,0,none⟩) 96 cbA1),.det (pt kbA1 0),.det (.int .u8 (pb x 0+128)),.det (.int .u8 (pb x 0+160)),.det (pt kbA1 0),.store (.base 0) 0 ([.int .u8 (pb x 0+160)]) (BC (su (cat (pb x) 48 (pb y)) 0 (pb x 0+160)) 96)] (nn 6) [0,1,3,7,15,31] (fun L d=>D d 0 5++([.slice (some ⟨kbA1,0,none⟩) 96 cbA1]++D d 6 25)) (fun L=>[(kbA1,BC (su (cat (pb x) 48 (pb y)) 0 (pb x 0+160)) 96)]) hp16 ⟨
   oM,oIS (b:=kbA1) (off:=0) (n:=96) (c:=cbA1) (sz:=1) 0 Tryz.underlying45 sizeY (by decide),oL1 0 0 oneY,oJ .u8 .u8 (pb x 0+128) 32 (h:=fun w=>orYp _ _ _ _ (or160 (pb_top x).1 (pb_top x).2) w),
   oIS (b:=kbA1) (off:=0) (n:=96) (c:=cbA1) (sz:=1) 0 Tryz.underlying45 sizeY (by decide),oT1 oneY,
   trivial⟩ (fun L16 d16 w17 hp17=>?_)
  refine k22 _ _ ?_
  refine sgsD [.det (.slice (some ⟨kbA1,0,none⟩) 96 cbA1),.det (.slice (some ⟨kbA1,0,none⟩) 96 cbA1)] [0,1] [0,1] (fun L d=>D d 0 4++([.slice (some ⟨kbA1,0,none⟩) 96 cbA1]++D d 5 26)) (fun L=>[(kbA1,BC (su (cat (pb x) 48 (pb y)) 0 (pb x 0+160)) 96)]) hp17 ⟨
   oM,oA,
   trivial⟩ (fun L17 d17 w18 hp18=>?_)
  refine wp_ret ?_
  refine bodyPost_ret (v:=.slice (some ⟨kbA1,0,none⟩) 96 cbA1) ?_ rfl ?_
  ·exact res_t rfl (by kernel_rfl) _
  ·exact ⟨_,rfl,⟨kbA1,cbA1,rfl,lbA1,mbA1,qbA1,(fun b hb=>by cases hb),box_eq (fin0 h1q) (hp18.bound 0 rfl).2⟩,hp18.bel⟩
 ·skip
  refine cond_f h1q ?_
  refine skips ?_
  refine k22 _ _ ?_
  refine sgsD [.det (.slice (some ⟨kbA1,0,none⟩) 96 cbA1),.det (.slice (some ⟨kbA1,0,none⟩) 96 cbA1)] [0,1] [0,1] (fun L d=>D d 0 4++([.slice (some ⟨kbA1,0,none⟩) 96 cbA1]++D d 5 26)) (fun L=>[(kbA1,BC (su (cat (pb x) 48 (pb y)) 0 (pb x 0+128)) 96)]) hp16 ⟨
   oM,oA,
   trivial⟩ (fun L16 d16 w17 hp17=>?_)
  refine wp_ret ?_
  refine bodyPost_ret (v:=.slice (some ⟨kbA1,0,none⟩) 96 cbA1) ?_ rfl ?_
  ·exact res_t rfl (by kernel_rfl) _
  ·exact ⟨_,rfl,⟨kbA1,cbA1,rfl,lbA1,mbA1,qbA1,(fun b hb=>by cases hb),box_eq (fin1 h1q) (hp17.bound 0 rfl).2⟩,hp17.bel⟩
theorem placeText1R (gr:Bool) (x:F) {v:Value} (w:World) (h:isRow1 (FC x) v w):Calls Tryz.prog 48 #[.bool gr,v] w (RetB (su (pb x) 0 (pb x 0+(bif gr then 160 else 128))) 48 w):=by
 obtain ⟨k,rfl,h⟩:=h
 exact placeText1 gr x k w h
theorem placeText2R (gr:Bool) (x y:F) {v:Value} (w:World) (h:isRow2 x y v w):Calls Tryz.prog 48 #[.bool gr,v] w (RetB (su (cat (pb x) 48 (pb y)) 0 (pb x 0+(bif gr then 160 else 128))) 96 w):=by
 obtain ⟨k,rfl,h,h2⟩:=h
 exact placeText2 gr x y k w h h2
theorem put1i {G:World→Prop} (K:FpK G)  (w:World) (hg:G w):Calls Tryz.prog 19 #[GV ⟨0,0,true⟩] w (RetB (ptx .inf) 48 w):=by
 have fin0:True:=by subst_vars;trivial
 have hp0:=Heap.start w
 go_enter Tryz.func19,Tryz.ntmps19
 refine sgsD [.alloc (GC ⟨0,0,true⟩),.det (.slice none 0 0)] [0,1] [0,0] (fun L d=>[d 0,L.p 0]++D d 2 11) (fun L=>[(L.b 0,GC ⟨0,0,true⟩)]) hp0 ⟨
  oB,oA,
  trivial⟩ (fun L0 d0 w1 hp1=>?_)
 refine wp_seq_k (fun K2 k2=>?_)
 refine sgsD [.det (pt (L0.b 0) 12),.det (.bool true)] [0,1] [0,1] (fun L d=>D d 0 4++([.bool true]++D d 5 8)) (fun L=>[(L0.b 0,GC ⟨0,0,true⟩)]) hp1 ⟨
  oF fG2,oL1 0 12 oneB,
  trivial⟩ (fun L1 d1 w2 hp2=>?_)
 refine cT ?_
 refine wp_seq_k (fun K4 k4=>?_)
 refine gsA [.any (isB w.heap.size [L0.b 0] (ptx .inf) 48),.detV 0 (fun v=>v)] [0,1] [0,1] (fun L=>D d1 0 2++([L.v 0,d1 3,.bool true,L.v 0]++D d1 6 7)) (fun L=>[(L0.b 0,GC ⟨0,0,true⟩)]) hp2 ⟨
  oY (fun L=>#[.int .i64 48]) (fun _ _ _ h hb=>h.stay hb) (fun L w hs=>newB hs [L0.b 0] (infText48 w)),oAV,
  trivial⟩ (fun L2 w3 hp3 ha3=>?_)
 obtain ⟨kb2b0,cb2b0,eb2b0,lb2b0,mb2b0,qb2b0,ub2b0,xb2b0⟩:=AnyF.at ha3 (j:=0) rfl rfl
 rw [eb2b0]
 have hp32b0:=Heap.add hp3 qb2b0 ub2b0 xb2b0
 refine k4 _ _ ?_
 refine wp_ret ?_
 refine bodyPost_ret (v:=.slice (some ⟨kb2b0,0,none⟩) 48 cb2b0) ?_ rfl ?_
 ·exact res_t rfl (by kernel_rfl) _
 ·exact ⟨_,rfl,⟨kb2b0,cb2b0,rfl,lb2b0,mb2b0,qb2b0,(fun b hb=>by cases hb),(hp32b0.bound 1 rfl).2⟩,hp32b0.bel⟩
theorem put1a {G:World→Prop} (K:FpK G) (x y:F) (w:World) (hg:G w):Calls Tryz.prog 19 #[GV ⟨x,y,false⟩] w (RetB (ptx (.aff x y)) 48 w):=by
 have fin0:True:=by subst_vars;trivial
 have hp0:=Heap.start w
 go_enter Tryz.func19,Tryz.ntmps19
 refine sgsD [.alloc (GC ⟨x,y,false⟩),.det (.slice none 0 0)] [0,1] [0,0] (fun L d=>[d 0,L.p 0]++D d 2 11) (fun L=>[(L.b 0,GC ⟨x,y,false⟩)]) hp0 ⟨
  oB,oA,
  trivial⟩ (fun L0 d0 w1 hp1=>?_)
 refine wp_seq_k (fun K2 k2=>?_)
 refine sgs [.det (pt (L0.b 0) 12),.det (.bool false)] [0,1] [0,1] (fun L=>[d0 0,L0.p 0,d0 2,pt (L0.b 0) 12,.bool false]++D d0 5 8) (fun L=>[(L0.b 0,GC ⟨x,y,false⟩)]) hp1 ⟨
  oF fG2,oL1 0 12 oneB,
  trivial⟩ (fun L1 w2 hp2=>?_)
 refine cfk (k2 _ _ ?_)
 refine wp_seq_k (fun K4 k4=>?_)
 refine drA [.det (pt (L0.b 0) 6),.det (FV y),.det (.bool (great y)),.det (L0.p 0),.det (FV x),.any (isRow1 (FC x)),.any (isB w.heap.size [L0.b 0] (ptx (.aff x y)) 48),.detV 6 (fun v=>v)] (nn 8) [0,1,3,0,8,24,63,127] (fun L=>[d0 0,L0.p 0,L.v 6,pt (L0.b 0) 12,.bool false,d0 5,pt (L0.b 0) 6,FV y,.bool (great y),L0.p 0,FV x,L.v 5,L.v 6]) (fun L=>[(L0.b 0,GC ⟨x,y,false⟩)]) hp2 ⟨
  oF fG1,oL 0 6 rF,oC K.stay hg (K.great y),oF fG0,oL 0 0 rF,oS2 Tryz.underlying83 rF,oY (fun L=>#[.bool (great y),L.v 5]) (fun _ _ _ h hb=>h.stay hb) (fun L w hs=>newB hs [L0.b 0] (placeText1R (great y) x w (hs.any 5 _ rfl rfl))),
  oAV,
  trivial⟩ (fun L2 w3 hp3 ha3=>?_)
 obtain ⟨kb2b6,cb2b6,eb2b6,lb2b6,mb2b6,qb2b6,ub2b6,xb2b6⟩:=AnyF.at ha3 (j:=6) rfl rfl
 rw [eb2b6]
 have hp32b6:=Heap.add hp3 qb2b6 ub2b6 xb2b6
 refine k4 _ _ ?_
 refine wp_ret ?_
 refine bodyPost_ret (v:=.slice (some ⟨kb2b6,0,none⟩) 48 cb2b6) ?_ rfl ?_
 ·exact res_t rfl (by kernel_rfl) _
 ·exact ⟨_,rfl,⟨kb2b6,cb2b6,rfl,lb2b6,mb2b6,qb2b6,(fun b hb=>by cases hb),(hp32b6.bound 1 rfl).2⟩,hp32b6.bel⟩
theorem put2i {G:World→Prop} (K:FpK G)  (w:World) (hg:G w):Calls Tryz.prog 21 #[T2.GV ⟨0,0,true⟩] w (RetB (T2.ptx2 .inf) 96 w):=by
 have fin0:True:=by subst_vars;trivial
 have hp0:=Heap.start w
 go_enter Tryz.func21,Tryz.ntmps21
 refine sgsD [.alloc (T2.GC ⟨0,0,true⟩),.det (.slice none 0 0)] [0,1] [0,0] (fun L d=>[d 0,L.p 0]++D d 2 15) (fun L=>[(L.b 0,T2.GC ⟨0,0,true⟩)]) hp0 ⟨
  oB,oA,
  trivial⟩ (fun L0 d0 w1 hp1=>?_)
 refine wp_seq_k (fun K2 k2=>?_)
 refine sgsD [.det (pt (L0.b 0) 24),.det (.bool true)] [0,1] [0,1] (fun L d=>D d 0 4++([.bool true]++D d 5 12)) (fun L=>[(L0.b 0,T2.GC ⟨0,0,true⟩)]) hp1 ⟨
  oF T2.fG2,oL1 0 24 oneB,
  trivial⟩ (fun L1 d1 w2 hp2=>?_)
 refine cT ?_
 refine wp_seq_k (fun K4 k4=>?_)
 refine gsA [.any (isB w.heap.size [L0.b 0] (T2.ptx2 .inf) 96),.detV 0 (fun v=>v)] [0,1] [0,1] (fun L=>D d1 0 2++([L.v 0,d1 3,.bool true,L.v 0]++D d1 6 11)) (fun L=>[(L0.b 0,T2.GC ⟨0,0,true⟩)]) hp2 ⟨
  oY (fun L=>#[.int .i64 96]) (fun _ _ _ h hb=>h.stay hb) (fun L w hs=>newB hs [L0.b 0] (infText96 w)),oAV,
  trivial⟩ (fun L2 w3 hp3 ha3=>?_)
 obtain ⟨kb2b0,cb2b0,eb2b0,lb2b0,mb2b0,qb2b0,ub2b0,xb2b0⟩:=AnyF.at ha3 (j:=0) rfl rfl
 rw [eb2b0]
 have hp32b0:=Heap.add hp3 qb2b0 ub2b0 xb2b0
 refine k4 _ _ ?_
 refine wp_ret ?_
 refine bodyPost_ret (v:=.slice (some ⟨kb2b0,0,none⟩) 96 cb2b0) ?_ rfl ?_
 ·exact res_t rfl (by kernel_rfl) _
 ·exact ⟨_,rfl,⟨kb2b0,cb2b0,rfl,lb2b0,mb2b0,qb2b0,(fun b hb=>by cases hb),(hp32b0.bound 1 rfl).2⟩,hp32b0.bel⟩
theorem put2a {G:World→Prop} (K:FpK G) (x y:F2) (w:World) (hg:G w):Calls Tryz.prog 21 #[T2.GV ⟨x,y,false⟩] w (RetB (T2.ptx2 (.aff x y)) 96 w):=by
 have fin0:True:=by subst_vars;trivial
 have hp0:=Heap.start w
 go_enter Tryz.func21,Tryz.ntmps21
 refine sgsD [.alloc (T2.GC ⟨x,y,false⟩),.det (.slice none 0 0)] [0,1] [0,0] (fun L d=>[d 0,L.p 0]++D d 2 15) (fun L=>[(L.b 0,T2.GC ⟨x,y,false⟩)]) hp0 ⟨
  oB,oA,
  trivial⟩ (fun L0 d0 w1 hp1=>?_)
 refine wp_seq_k (fun K2 k2=>?_)
 refine sgs [.det (pt (L0.b 0) 24),.det (.bool false)] [0,1] [0,1] (fun L=>[d0 0,L0.p 0,d0 2,pt (L0.b 0) 24,.bool false]++D d0 5 12) (fun L=>[(L0.b 0,T2.GC ⟨x,y,false⟩)]) hp1 ⟨
  oF T2.fG2,oL1 0 24 oneB,
  trivial⟩ (fun L1 w2 hp2=>?_)
 refine cfk (k2 _ _ ?_)
 refine wp_seq_k (fun K4 k4=>?_)
 refine drA [.det (pt (L0.b 0) 12),.det (PV y),.det (.bool (F2.great y)),.det (L0.p 0),.det (pt (L0.b 0) 6),.det (FV x.c1),.det (L0.p 0),.det (L0.p 0),.det (FV x.c0),.any (isRow2 x.c1 x.c0),.any (isB w.heap.size [L0.b 0] (T2.ptx2 (.aff x y)) 96),.detV 10 (fun v=>v)] (nn 12) [0,1,3,0,8,24,0,64,192,504,1023,2047] (fun L=>[d0 0,L0.p 0,L.v 10,pt (L0.b 0) 24,.bool false,d0 5,pt (L0.b 0) 12,PV y,.bool (F2.great y),L0.p 0,pt (L0.b 0) 6,FV x.c1,L0.p 0,L0.p 0,FV x.c0,L.v 9,L.v 10]) (fun L=>[(L0.b 0,T2.GC ⟨x,y,false⟩)]) hp2 ⟨
  oF T2.fG1,oL 0 12 rP,oC K.stay hg (fp2Great K y),oF T2.fG0,oI aP,oL 0 6 rF,oF T2.fG0,oI aP,oL 0 0 rF,oS22,oY (fun L=>#[.bool (F2.great y),L.v 9]) (fun _ _ _ h hb=>h.stay hb) (fun L w hs=>newB hs [L0.b 0] (placeText2R (F2.great y) x.c1 x.c0 w (hs.any 9 _ rfl rfl))),
  oAV,
  trivial⟩ (fun L2 w3 hp3 ha3=>?_)
 obtain ⟨kb2b10,cb2b10,eb2b10,lb2b10,mb2b10,qb2b10,ub2b10,xb2b10⟩:=AnyF.at ha3 (j:=10) rfl rfl
 rw [eb2b10]
 have hp32b10:=Heap.add hp3 qb2b10 ub2b10 xb2b10
 refine k4 _ _ ?_
 refine wp_ret ?_
 refine bodyPost_ret (v:=.slice (some ⟨kb2b10,0,none⟩) 96 cb2b10) ?_ rfl ?_
 ·exact res_t rfl (by kernel_rfl) _
 ·exact ⟨_,rfl,⟨kb2b10,cb2b10,rfl,lb2b10,mb2b10,qb2b10,(fun b hb=>by cases hb),(hp32b10.bound 1 rfl).2⟩,hp32b10.bel⟩
theorem pointPut1 {G:World→Prop} (K:FpK G) (P:Pt F) (w:World) (hg:G w):Calls Tryz.prog 19 #[GV (gp P)] w (RetB (ptx P) 48 w):=by
 cases P with
 | inf=>exact put1i K w hg
 | aff x y=>exact put1a K x y w hg
theorem pointPut2 {G:World→Prop} (K:FpK G) (P:Pt F2) (w:World) (hg:G w):Calls Tryz.prog 21 #[T2.GV (T2.gp P)] w (RetB (T2.ptx2 P) 96 w):=by
 cases P with
 | inf=>exact put2i K w hg
 | aff x y=>exact put2a K x y w hg
end Go.Proofs.YtmibajbpimcfnaaGreatDoor.fpn
/- Whether bytes are noughts; Inf's text. -/
namespace Go.Proofs.YtmibajbpimcfnaaGreatDoor.fpn
open Go.RowKit Pl EC
theorem andY (t:TypeId) (a b c:Int) (h:bits .and .u8 a b=c) (w:World):(binOp .and t (.int .u8 a) (.int .u8 b)).run Tryz.prog w=.ok (.int .u8 c) w:=by
 simp [binOp,Sem.run_bind,Op.intBits]
 exact h
theorem andnY (t:TypeId) (a b c:Int) (h:bits .andNot .u8 a b=c) (w:World):(binOp .andNot t (.int .u8 a) (.int .u8 b)).run Tryz.prog w=.ok (.int .u8 c) w:=by
 unfold bits at h
 simp [binOp,Sem.run_bind,Op.intBits] at h ⊢
 exact h
def ntz (g:Nat→Int) (n:Nat):Bool:=decide (∀ j,j<n→g j=0)
theorem nt_good {g:Nat→Int} {n i:Nat} (hn:n≤i) (h:∀ j,j<i→g j=0):Ending.returned (.bool true)=Ending.returned (.bool (ntz g n)):=by
 unfold ntz;rw [decide_eq_true fun j hj=>h j (by omega)]
theorem nt_bad {g:Nat→Int} {n i:Nat} (hn:i<n) (h:¬ g i=0):Ending.returned (.bool false)=Ending.returned (.bool (ntz g n)):=by
 unfold ntz;rw [decide_eq_false fun hh=>h (hh i hn)]
theorem nt_more {f:Nat→Int} {i:Nat} (h:∀ j,j<i→f j=0) (hx:f i=0):∀ j,j<i+1→f j=0:=fun j hj=>by
 rcases Nat.lt_or_ge j i with h1 | h1
 ·exact h j h1
 ·obtain rfl:j=i:=by omega
  exact hx
def slen:Value→Nat
 | .slice _ n _=>n
 | _=>0
theorem oSR {ops:Array Oper} {ks:List Kind} {T:List Nat} {a0:Act} {B:Nat} {w0:World} {H:List (Nat × List Value)} {i:Nat} {o:Oper} {x l:Operand} {b off len c n:Nat} {p:Option Addr} (hn:n≤len) (hlc:len≤c) (hp:p=if c=n then some ⟨b,off,none⟩ else some ⟨b,off+n,none⟩) (hw:∀ L,wantedR ks L o=true:=by intro _;kernel_rfl) (ho:o.op=.slice 45 x (some l) none none:=by exact rfl)
  (hx:∀ L,rd ops ks T a0 L i x=.slice (some ⟨b,off,none⟩) len c:=by intro _;kernel_rfl) (hl:∀ L,rd ops ks T a0 L i l=.int .i64 (n:Int):=by intro _;kernel_rfl) (hk:kd ks i=.det (.slice p (len-n) (c-n))):Obl Tryz.prog ops ks T a0 B w0 H i o:=⟨ob_pure hw hk fun L w=>by
  have h1:(0:Int)≤(n:Int)∧(n:Int)≤(len:Int):=⟨by omega,by omega⟩
  have h3:(0:Int)≤(len:Int)∧(len:Int)≤(c:Int):=⟨by omega,by omega⟩
  have hsz:(sizeOf 5).run Tryz.prog w=.ok 1 w:=size_of sizeY w
  subst hp
  unfold execOp
  by_cases h2:c=n
  ·have h2':c-n=0:=by omega
   simp [ho,hx L,hl L,Instr.sliceAt,Instr.slice,Instr.sliceBounds,Instr.sliceBound,asIntOf,Sem.run_bind,run_underlying Tryz.underlying45,hsz,hn,hlc,h2,Addr.add_mid]
   try omega
  ·simp [ho,hx L,hl L,Instr.sliceAt,Instr.slice,Instr.sliceBounds,Instr.sliceBound,asIntOf,Sem.run_bind,run_underlying Tryz.underlying45,hsz,hn,hlc,h2,Addr.add_mid]⟩
def ntI (N q:Nat) (g:Nat→Int) (w:World):Act→World→Prop:=fun a' w'=>∃ (i n:Nat) (p:Option Addr) (c:Nat) (d:Nat→Value),a'={ tmps:=([.slice p n c,d 1,.bool false]++D d 3 9:List Value).toArray,defers:=[] }∧i+n=N∧(0<n→p=some ⟨q,i,none⟩∧n≤c)∧(∀ j,j<i→g j=0)∧Heap w.heap.size w w' []
theorem noughts (N q c:Nat) (g:Nat→Int) (w:World) (hc0:N≤c) (hq:∀ j,j<N→w.cell? ⟨q,j,none⟩=some (.int .u8 (g j))):Calls Tryz.prog 118 #[.slice (some ⟨q,0,none⟩) N c] w (Ret (.bool (ntz g N)) w):=by
 have hp0:=Heap.start w
 go_enter Tryz.func118,Tryz.ntmps118
 refine sgsD [.det (.bool false)] [0] [0] (fun L d=>[.slice (some ⟨q,0,none⟩) N c,d 1,.bool false]++D d 3 9) (fun L=>[]) hp0 ⟨
  oA,
  trivial⟩ (fun L0 d0 w1 hp1=>?_)
 refine wp_scope_goto 0 (ntI N q g w) (fun a' _=>slen (a'.tmps.getD 0 undef)) rfl ?_ ?_
 ·skip
  rintro a' W ⟨i,n,p,c',d,rfl,hin,hp,hz,hJ⟩
  rcases Nat.eq_zero_or_pos n with h0 | h0
  ·skip
   subst h0
   refine wp_seq_k (fun K1 k1=>?_)
   refine sgsD [.det (.slice p 0 c'),.det (.int .i64 0),.det (.bool true)] [0,1,2] [0,1,3] (fun L d=>[.slice p 0 c']++(D d 1 4++([.bool true]++D d 6 6))) (fun L=>[]) hJ ⟨
    oM,fun h=>⟨ob_len (p:=p) (n:=0) (c:=c') (fun _=>rfl) h rfl (fun _=>by kernel_rfl) Tryz.underlying45⟩,oJ .i64 .i64 0 0 (h:=fun w=>(eqlI _ _ _ _ w).trans rfl),
    trivial⟩ (fun L1 d1 w2 hp2=>?_)
   refine cT ?_
   refine sgsD [.det (.bool true)] [0] [0] (fun L d=>[.slice p 0 c',d 1,.bool true]++D d 3 9) (fun L=>[]) hp2 ⟨
    oA,
    trivial⟩ (fun L2 d2 w3 hp3=>?_)
   refine wp_ret ?_
   refine bodyPost_ret (v:=.bool true) ?_ rfl ?_
   ·exact res_t rfl (by kernel_rfl) _
   ·exact ⟨nt_good (by omega) hz,hp3.bel⟩
  ·skip
   obtain ⟨m,rfl⟩:∃ m,n=m+1:=⟨n-1,by omega⟩
   obtain ⟨rfl,hc⟩:=hp (by omega)
   by_cases hx:g i=0
   ·skip
    obtain ⟨p2,e2⟩:∃ p2:Option Addr,p2=(if c'=1 then some ⟨q,i,none⟩ else some ⟨q,i+1,none⟩):=⟨_,rfl⟩
    refine wp_seq_k (fun K4 k4=>?_)
    refine sgsD [.det (.slice (some ⟨q,i,none⟩) (m+1:Nat) c'),.det (.int .i64 (m+1:Nat)),.det (.bool false)] [0,1,2] [0,1,3] (fun L d=>[.slice (some ⟨q,i,none⟩) (m+1:Nat) c',d 1,.bool false]++(D d 3 2++([.bool false]++D d 6 6))) (fun L=>[]) hJ ⟨
     oM,fun h=>⟨ob_len (p:=(some ⟨q,i,none⟩)) (n:=(m+1:Nat)) (c:=c') (fun _=>rfl) h rfl (fun _=>by kernel_rfl) Tryz.underlying45⟩,
     oJ .i64 .i64 (m+1:Nat) 0 (h:=fun w=>(eqlI _ _ _ _ w).trans (by rw [decide_eq_false (by omega)])),
     trivial⟩ (fun L3 d3 w4 hp4=>?_)
    refine cfk (k4 _ _ ?_)
    refine wp_seq_k (fun K6 k6=>?_)
    refine sgsD [.det (.slice (some ⟨q,i,none⟩) (m+1:Nat) c'),.det (.pointer (some ⟨q,i+0*1,none⟩)),.det (.int .u8 (g i)),.det (.bool false)] [0,1,2,3] [0,1,3,7] (fun L d=>[.slice (some ⟨q,i,none⟩) (m+1:Nat) c',d 1,.bool false]++(D d 3 6++([.bool false]++D d 10 2))) (fun L=>[]) hp4 ⟨
     oM,oIS (n:=(m+1:Nat)) (c:=c') 0 Tryz.underlying45 sizeY (by omega),oLC oneY (fun L w hs=>cell_up (hq i (by omega)) hs.bel),oJ .u8 .u8 (g i) 0 (h:=fun w=>(neqI _ _ _ _ w).trans (by rw [decide_eq_true hx];rfl)),
     trivial⟩ (fun L4 d4 w5 hp5=>?_)
    refine cfk (k6 _ _ ?_)
    refine sgsD [.det (.slice (some ⟨q,i,none⟩) (m+1:Nat) c'),.det (.slice p2 m (c'-1)),.det (.slice p2 m (c'-1))] [0,1,2] [0,1,3] (fun L d=>[.slice p2 m (c'-1),d 1,.bool false]++D d 3 9) (fun L=>[]) hp5 ⟨
     oM,oSR (b:=q) (off:=i) (len:=m+1) (c:=c') (n:=1) (by omega) hc e2,oA,
     trivial⟩ (fun L5 d5 w6 hp6=>?_)
    refine wp_goto ?_
    exact ⟨rfl,⟨i+1,m,p2,c'-1,d5,rfl,by omega,fun hm=>⟨by rw [e2,if_neg (by omega)],by omega⟩,nt_more hz hx,hp6⟩,by show m<m+1;omega⟩
   ·skip
    refine wp_seq_k (fun K9 k9=>?_)
    refine sgsD [.det (.slice (some ⟨q,i,none⟩) (m+1:Nat) c'),.det (.int .i64 (m+1:Nat)),.det (.bool false)] [0,1,2] [0,1,3] (fun L d=>[.slice (some ⟨q,i,none⟩) (m+1:Nat) c']++(D d 1 4++([.bool false]++D d 6 6))) (fun L=>[]) hJ ⟨
     oM,fun h=>⟨ob_len (p:=(some ⟨q,i,none⟩)) (n:=(m+1:Nat)) (c:=c') (fun _=>rfl) h rfl (fun _=>by kernel_rfl) Tryz.underlying45⟩,
     oJ .i64 .i64 (m+1:Nat) 0 (h:=fun w=>(eqlI _ _ _ _ w).trans (by rw [decide_eq_false (by omega)])),
     trivial⟩ (fun L6 d6 w7 hp7=>?_)
    refine cfk (k9 _ _ ?_)
    refine wp_seq_k (fun K11 k11=>?_)
    refine sgsD [.det (.slice (some ⟨q,i,none⟩) (m+1:Nat) c'),.det (.pointer (some ⟨q,i+0*1,none⟩)),.det (.int .u8 (g i)),.det (.bool true)] [0,1,2,3] [0,1,3,7] (fun L d=>D d 0 9++([.bool true]++D d 10 2)) (fun L=>[]) hp7 ⟨
     oM,oIS (n:=(m+1:Nat)) (c:=c') 0 Tryz.underlying45 sizeY (by omega),oLC oneY (fun L w hs=>cell_up (hq i (by omega)) hs.bel),oJ .u8 .u8 (g i) 0 (h:=fun w=>(neqI _ _ _ _ w).trans (by rw [decide_eq_false hx];rfl)),
     trivial⟩ (fun L7 d7 w8 hp8=>?_)
    refine cT ?_
    refine sgsD [.det (.bool false)] [0] [0] (fun L d=>D d 0 2++([.bool false]++D d 3 9)) (fun L=>[]) hp8 ⟨
     oA,
     trivial⟩ (fun L8 d8 w9 hp9=>?_)
    refine wp_ret ?_
    refine bodyPost_ret (v:=.bool false) ?_ rfl ?_
    ·exact res_t rfl (by kernel_rfl) _
    ·exact ⟨nt_bad (by omega) hx,hp9.bel⟩
 ·skip
  intro hr
  refine wp_seq_k (fun K1 k1=>?_)
  refine wp_label ?_
  exact k1 _ _ (hr _ _ ⟨0,N,some ⟨q,0,none⟩,c,d0,rfl,by omega,fun _=>⟨rfl,hc0⟩,fun j hj=>absurd hj (by omega),hp1⟩)
theorem readInfG (m:Int) (N q c:Nat) (g:Nat→Int) (w:World) (hm:bits .and .u8 m 32=32) (hc0:N≤c) (hq:∀ j,j<N→w.cell? ⟨q,j,none⟩=some (.int .u8 (g j))):Calls Tryz.prog 84 #[.int .u8 m,.slice (some ⟨q,0,none⟩) N c] w (Ret (.tuple #[TXV ⟨false,false,.slice none 0 0⟩,.int .i64 3]) w):=by
 have hp0:=Heap.start w
 go_enter Tryz.func84,Tryz.ntmps84
 refine sgsD [.alloc (TXC ⟨false,false,.slice none 0 0⟩),.det (.int .i64 0)] [0,1] [0,0] (fun L d=>[.int .u8 m]++(D d 1 3++([L.p 0]++D d 5 11))) (fun L=>[(L.b 0,TXC ⟨false,false,.slice none 0 0⟩)]) hp0 ⟨
  oZ rTX,oA,
  trivial⟩ (fun L0 _ w1 hp1=>?_)
 refine wp_seq_k (fun K2 k2=>?_)
 refine sgsD [.det (.int .u8 m),.det (.int .u8 32),.det (.bool true),.det (.bool true),.det undef,.det undef,.det undef,.det (.bool true)] (nn 8) [0,1,3,7,15,31,63,127] (fun L d=>D d 0 4++([L0.p 0]++(D d 5 8++([.bool true]++D d 14 2)))) (fun L=>[(L0.b 0,TXC ⟨false,false,.slice none 0 0⟩)]) hp1 ⟨
  oM,oJ .u8 .u8 m 32 (h:=fun w=>andY _ _ _ _ hm w),oJ .u8 .u8 32 0 (h:=fun w=>(neqI _ _ _ _ w).trans rfl),oM,oS,oS,oS,oP,
  trivial⟩ (fun L1 _ w2 hp2=>?_)
 refine cT ?_
 refine sgsD [.det (TXV ⟨false,false,.slice none 0 0⟩),.store (.base 0) 0 (TXC ⟨false,false,.slice none 0 0⟩) (TXC ⟨false,false,.slice none 0 0⟩),.det (.int .i64 3)] [0,1,2] [0,1,3] (fun L d=>D d 0 4++([L0.p 0,.int .i64 3]++D d 6 10)) (fun L=>[(L0.b 0,TXC ⟨false,false,.slice none 0 0⟩)]) hp2 ⟨
  oD buildXn,oT rTX,oA,
  trivial⟩ (fun L2 _ w3 hp3=>?_)
 refine wp_ret ?_
 refine bodyPost_ret (v:=.tuple #[TXV ⟨false,false,.slice none 0 0⟩,.int .i64 3]) ?_ rfl ?_
 ·exact rct rTX rfl (by kernel_rfl) (by kernel_rfl) (hp3.bound 0 rfl).2
 ·exact ⟨rfl,hp3.bel⟩
theorem readInfT (m:Int) (N q c:Nat) (g:Nat→Int) (w:World) (hm:bits .and .u8 m 32=0) (hc0:N≤c) (hq:∀ j,j<N→w.cell? ⟨q,j,none⟩=some (.int .u8 (g j))) (hz:ntz g N=true):Calls Tryz.prog 84 #[.int .u8 m,.slice (some ⟨q,0,none⟩) N c] w (Ret (.tuple #[TXV ⟨true,false,.slice none 0 0⟩,.int .i64 0]) w):=by
 have hp0:=Heap.start w
 go_enter Tryz.func84,Tryz.ntmps84
 refine sgsD [.alloc (TXC ⟨false,false,.slice none 0 0⟩),.det (.int .i64 0)] [0,1] [0,0] (fun L d=>[.int .u8 m,.slice (some ⟨q,0,none⟩) N c,undef,undef,L.p 0,d 5]++U 10) (fun L=>[(L.b 0,TXC ⟨false,false,.slice none 0 0⟩)]) hp0 ⟨
  oZ rTX,oA,
  trivial⟩ (fun L0 _ w1 hp1=>?_)
 refine wp_seq_k (fun K2 k2=>?_)
 refine sgsD [.det (.int .u8 m),.det (.int .u8 0),.det (.bool false),.det (.bool false),.det (.slice (some ⟨q,0,none⟩) N c),.det (.bool true),.det (.bool false),.det (.bool false)] (nn 8) [0,1,3,7,15,31,63,127] (fun L d=>D d 0 4++([L0.p 0]++(D d 5 8++([.bool false]++D d 14 2)))) (fun L=>[(L0.b 0,TXC ⟨false,false,.slice none 0 0⟩)]) hp1 ⟨
  oM,oJ .u8 .u8 m 32 (h:=fun w=>andY _ _ _ _ hm w),oJ .u8 .u8 0 0 (h:=fun w=>(neqI _ _ _ _ w).trans rfl),oM,oM,oH (v:=.bool true) (vs:=#[.slice (some ⟨q,0,none⟩) N c]) (fun w hb _=>by rw [← hz];exact noughts N q c g w hc0 (fun j hj=>cell_up (hq j hj) hb)),
  oN,oP,
  trivial⟩ (fun L1 _ w2 hp2=>?_)
 refine cfk (k2 _ _ ?_)
 refine sgsD [.det (TXV ⟨true,false,.slice none 0 0⟩),.store (.base 0) 0 (TXC ⟨true,false,.slice none 0 0⟩) (TXC ⟨true,false,.slice none 0 0⟩),.det (.int .i64 0)] [0,1,2] [0,1,3] (fun L d=>D d 0 4++([L0.p 0,.int .i64 0]++D d 6 10)) (fun L=>[(L0.b 0,TXC ⟨true,false,.slice none 0 0⟩)]) hp2 ⟨
  oD (buildXi true),oT rTX,oA,
  trivial⟩ (fun L2 _ w3 hp3=>?_)
 refine wp_ret ?_
 refine bodyPost_ret (v:=.tuple #[TXV ⟨true,false,.slice none 0 0⟩,.int .i64 0]) ?_ rfl ?_
 ·exact rct rTX rfl (by kernel_rfl) (by kernel_rfl) (hp3.bound 0 rfl).2
 ·exact ⟨rfl,hp3.bel⟩
theorem readInfF (m:Int) (N q c:Nat) (g:Nat→Int) (w:World) (hm:bits .and .u8 m 32=0) (hc0:N≤c) (hq:∀ j,j<N→w.cell? ⟨q,j,none⟩=some (.int .u8 (g j))) (hz:ntz g N=false):Calls Tryz.prog 84 #[.int .u8 m,.slice (some ⟨q,0,none⟩) N c] w (Ret (.tuple #[TXV ⟨false,false,.slice none 0 0⟩,.int .i64 3]) w):=by
 have hp0:=Heap.start w
 go_enter Tryz.func84,Tryz.ntmps84
 refine sgsD [.alloc (TXC ⟨false,false,.slice none 0 0⟩),.det (.int .i64 0)] [0,1] [0,0] (fun L d=>[.int .u8 m,.slice (some ⟨q,0,none⟩) N c,undef,undef,L.p 0,d 5]++U 10) (fun L=>[(L.b 0,TXC ⟨false,false,.slice none 0 0⟩)]) hp0 ⟨
  oZ rTX,oA,
  trivial⟩ (fun L0 _ w1 hp1=>?_)
 refine wp_seq_k (fun K2 k2=>?_)
 refine sgsD [.det (.int .u8 m),.det (.int .u8 0),.det (.bool false),.det (.bool false),.det (.slice (some ⟨q,0,none⟩) N c),.det (.bool false),.det (.bool true),.det (.bool true)] (nn 8) [0,1,3,7,15,31,63,127] (fun L d=>D d 0 4++([L0.p 0]++(D d 5 8++([.bool true]++D d 14 2)))) (fun L=>[(L0.b 0,TXC ⟨false,false,.slice none 0 0⟩)]) hp1 ⟨
  oM,oJ .u8 .u8 m 32 (h:=fun w=>andY _ _ _ _ hm w),oJ .u8 .u8 0 0 (h:=fun w=>(neqI _ _ _ _ w).trans rfl),oM,oM,oH (v:=.bool false) (vs:=#[.slice (some ⟨q,0,none⟩) N c]) (fun w hb _=>by rw [← hz];exact noughts N q c g w hc0 (fun j hj=>cell_up (hq j hj) hb)),
  oN,oP,
  trivial⟩ (fun L1 _ w2 hp2=>?_)
 refine cT ?_
 refine sgsD [.det (TXV ⟨false,false,.slice none 0 0⟩),.store (.base 0) 0 (TXC ⟨false,false,.slice none 0 0⟩) (TXC ⟨false,false,.slice none 0 0⟩),.det (.int .i64 3)] [0,1,2] [0,1,3] (fun L d=>D d 0 4++([L0.p 0,.int .i64 3]++D d 6 10)) (fun L=>[(L0.b 0,TXC ⟨false,false,.slice none 0 0⟩)]) hp2 ⟨
  oD buildXn,oT rTX,oA,
  trivial⟩ (fun L2 _ w3 hp3=>?_)
 refine wp_ret ?_
 refine bodyPost_ret (v:=.tuple #[TXV ⟨false,false,.slice none 0 0⟩,.int .i64 3]) ?_ rfl ?_
 ·exact rct rTX rfl (by kernel_rfl) (by kernel_rfl) (hp3.bound 0 rfl).2
 ·exact ⟨rfl,hp3.bel⟩
end Go.Proofs.YtmibajbpimcfnaaGreatDoor.fpn
