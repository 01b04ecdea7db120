/- Texts laid together. -/
import Derived.Test.YtmibajbpimcfnaaGreatDoorGX
import Derived.Test.YtmibajbpimcfnaaGreatDoorGO
import Derived.Deep.LoopGhost
set_option linter.unusedVariables false
set_option linter.unusedSimpArgs false
set_option maxRecDepth 4000
set_option maxHeartbeats 4000000
/- The first bits of a point's bytes, as the reference reads them. -/
namespace Go.Proofs.YtmibajbpimcfnaaGreatDoor.fpn
open Go.RowKit Pl
theorem gtrI (t:TypeId) (a b:Int) (w:World):(binOp .gtr t (.int .i64 a) (.int .i64 b)).run Tryz.prog w=.ok (.bool (decide (b<a))) w:=by simp [binOp,Sem.run_bind,Op.intCmp]
theorem hd_bad {g:Nat→Int} {n:Nat} {a b:Value} (h:¬ ((∀ j,j<n→su g 0 (g 0%32) j=0)∧¬ g 0 / 32=7)):Ending.returned b=Ending.returned (bif hdz g n then a else b):=by
 unfold hdz;rw [decide_eq_false h];rfl
theorem hd_good {g:Nat→Int} {n i:Nat} {a b:Value} (hn:n≤i) (h:∀ j,j<i→su g 0 (g 0%32) j=0) (h7:¬ g 0 / 32=7):Ending.returned a=Ending.returned (bif hdz g n then a else b):=by
 unfold hdz;rw [decide_eq_true ⟨fun j hj=>h j (by omega),h7⟩];rfl
theorem hd_more {f:Nat→Int} {i:Nat} (h:∀ j,j<i→f j=0) (hx:f i=0):∀ j,j<i+1→f j=0:=fun j hj=>by
 rcases Nat.lt_or_ge j i with h1 | h1
 ·exact h j h1
 ·obtain rfl:j=i:=by omega
  exact hx
theorem ref5hdLow (N:Nat) (p:Option Addr) (c:Nat) (g:Nat→Int) (w:World) (h0:0<N) (hN:N≤1000) (hb:AtK .u8 w p N g) (r0:0≤g 0) (hl:g 0 / 32<4):Calls Tryz.prog 57 #[.slice p N c,.int .i64 N] w (Ret (.tuple #[.slice none 0 0,.bool false,.bool false,.int .i64 3]) w):=by
 have hp0:=Heap.start w
 go_enter Tryz.func57,Tryz.ntmps57
 refine sgsD [.det (.slice none 0 0),.det (.bool false),.det (.bool false),.det (.int .i64 0)] [0,1,2,3] [0,1,3,7] (fun L d=>[.slice p N c,.int .i64 N]++D d 2 51) (fun L=>[]) hp0 ⟨
  oA,oA,oA,oA,
  trivial⟩ (fun L0 d0 w1 hp1=>?_)
 refine wp_seq_k (fun K2 k2=>?_)
 refine sgsD [.det (.slice p N c),.det (.int .i64 N),.det (.int .i64 N),.det (.bool false)] [0,1,2,3] [0,1,0,7] (fun L d=>[.slice p N c,.int .i64 N]++(D d 2 12++([.bool false]++D d 15 38))) (fun L=>[]) hp1 ⟨
  oM,fun h=>⟨ob_len (p:=p) (n:=N) (c:=c) (fun _=>rfl) h rfl (fun _=>by kernel_rfl) Tryz.underlying45⟩,oM,oJ .i64 .i64 N N (h:=fun w=>(lssI _ _ _ w).trans (by rw [decide_eq_false (by omega)])),
  trivial⟩ (fun L1 d1 w2 hp2=>?_)
 refine cfk (k2 _ _ ?_)
 refine wp_seq_k (fun K4 k4=>?_)
 refine sgsD [.det (.slice p N c),.det (.int .i64 N),.det (.int .i64 N),.det (.bool false)] [0,1,2,3] [0,1,0,7] (fun L d=>[.slice p N c]++(D d 1 17++([.bool false]++D d 19 34))) (fun L=>[]) hp2 ⟨
  oM,fun h=>⟨ob_len (p:=p) (n:=N) (c:=c) (fun _=>rfl) h rfl (fun _=>by kernel_rfl) Tryz.underlying45⟩,oM,oJ .i64 .i64 N N (h:=fun w=>(gtrI _ _ _ w).trans (by rw [decide_eq_false (by omega)])),
  trivial⟩ (fun L2 d2 w3 hp3=>?_)
 refine cfk (k4 _ _ ?_)
 refine wp_seq_k (fun K6 k6=>?_)
 refine gsA [.any isE,.det (.slice p N c),.any (isB w.heap.size [] g N),.detV 2 (fun v=>v)] [0,1,2,3] [0,0,3,7] (fun L=>[.slice p N c]++(D d2 1 7++([L.v 2]++(D d2 9 9++([.bool false,L.v 0,.slice p N c,L.v 2]++D d2 22 31))))) (fun L=>[]) hp3 ⟨
  oE0,oM,oApE (n:=N) (c:=c) [] 0 h0 hN hb,oAV,
  trivial⟩ (fun L3 w4 hp4 ha4=>?_)
 obtain ⟨kb3b2,cb3b2,eb3b2,lb3b2,mb3b2,qb3b2,ub3b2,xb3b2⟩:=AnyF.at ha4 (j:=2) rfl rfl
 rw [eb3b2]
 have hp43b2:=Heap.add hp4 qb3b2 ub3b2 xb3b2
 refine k6 _ _ ?_
 refine sgsD [.det (.slice (some ⟨kb3b2,0,none⟩) N cb3b2),.det (.pointer (some ⟨kb3b2,0+0*1,none⟩)),.det (.int .u8 (g 0)),.det (.int .u8 (g 0 / 32)),.det (.int .u8 (g 0 / 32))] (nn 5) [0,1,3,7,15] (fun L d=>D d 0 8++([.slice (some ⟨kb3b2,0,none⟩) N cb3b2,.int .u8 (g 0 / 32)]++D d 10 43)) (fun L=>[(kb3b2,BC g N)]) hp43b2 ⟨
  oM,oIS (n:=N) (c:=cb3b2) 0 Tryz.underlying45 sizeY h0,oLY 0 h0,oJ .u8 .u64 (g 0) 5 (h:=fun w=>shrY _ _ _ 5 rfl (by decide) w),oA,
  trivial⟩ (fun L4 d4 w5 hp5=>?_)
 refine sgsD [.det (.slice (some ⟨kb3b2,0,none⟩) N cb3b2),.det (.slice (some ⟨kb3b2,0,none⟩) N cb3b2),.det (.pointer (some ⟨kb3b2,0+0*1,none⟩)),.det (.int .u8 (g 0)),.det (.int .u8 (g 0%32)),.det (.pointer (some ⟨kb3b2,0+0*1,none⟩)),.store (.base 0) (0+0*1) ([.int .u8 (g 0%32)]) (BC (su g 0 (g 0%32)) N)] (nn 7) [0,0,2,6,14,31,63] (fun L d=>D d 0 9++([.int .u8 (g 0 / 32)]++D d 10 43)) (fun L=>[(kb3b2,BC (su g 0 (g 0%32)) N)]) hp5 ⟨
  oM,oM,oIS (n:=N) (c:=cb3b2) 0 Tryz.underlying45 sizeY h0,oLY 0 h0,oJ .u8 .u8 (g 0) 32 (h:=fun w=>remY _ _ _ _ rfl r0 (by decide) w),oIS (n:=N) (c:=cb3b2) 0 Tryz.underlying45 sizeY h0,
  oTY (j:=0) h0,
  trivial⟩ (fun L5 d5 w6 hp6=>?_)
 refine wp_seq_k (fun K9 k9=>?_)
 refine sgsD [.det (.int .u8 (g 0 / 32)),.det (.bool true)] [0,1] [0,1] (fun L d=>D d 0 33++([.bool true]++D d 34 19)) (fun L=>[(kb3b2,BC (su g 0 (g 0%32)) N)]) hp6 ⟨
  oM,oJ .u8 .u8 (g 0 / 32) 4 (h:=fun w=>(lssY _ _ _ w).trans (by rw [decide_eq_true hl])),
  trivial⟩ (fun L6 d6 w7 hp7=>?_)
 refine cT ?_
 refine sgsD [.det (.slice none 0 0),.det (.bool false),.det (.bool false),.det (.int .i64 3)] [0,1,2,3] [0,1,3,7] (fun L d=>D d 0 4++([.slice none 0 0,.bool false,.bool false,.int .i64 3]++D d 8 45)) (fun L=>[(kb3b2,BC (su g 0 (g 0%32)) N)]) hp7 ⟨
  oA,oA,oA,oA,
  trivial⟩ (fun L7 d7 w8 hp8=>?_)
 refine wp_ret ?_
 refine bodyPost_ret (v:=.tuple #[.slice none 0 0,.bool false,.bool false,.int .i64 3]) ?_ rfl ?_
 ·exact res_4 rfl (by kernel_rfl) (by kernel_rfl) (by kernel_rfl) (by kernel_rfl) _
 ·exact ⟨rfl,hp8.bel⟩
theorem ref5hdShort (p:Option Addr) (n c N:Nat) (w:World) (hn:n<N):Calls Tryz.prog 57 #[.slice p n c,.int .i64 N] w (Ret (.tuple #[.slice none 0 0,.bool false,.bool false,.int .i64 2]) w):=by
 have hp0:=Heap.start w
 go_enter Tryz.func57,Tryz.ntmps57
 refine sgsD [.det (.slice none 0 0),.det (.bool false),.det (.bool false),.det (.int .i64 0)] [0,1,2,3] [0,1,3,7] (fun L d=>[.slice p n c,.int .i64 N]++D d 2 51) (fun L=>[]) hp0 ⟨
  oA,oA,oA,oA,
  trivial⟩ (fun L0 d0 w1 hp1=>?_)
 refine wp_seq_k (fun K2 k2=>?_)
 refine sgsD [.det (.slice p n c),.det (.int .i64 n),.det (.int .i64 N),.det (.bool true)] [0,1,2,3] [0,1,0,7] (fun L d=>D d 0 14++([.bool true]++D d 15 38)) (fun L=>[]) hp1 ⟨
  oM,fun h=>⟨ob_len (p:=p) (n:=n) (c:=c) (fun _=>rfl) h rfl (fun _=>by kernel_rfl) Tryz.underlying45⟩,oM,oJ .i64 .i64 n N (h:=fun w=>(lssI _ _ _ w).trans (by rw [decide_eq_true (by omega)])),
  trivial⟩ (fun L1 d1 w2 hp2=>?_)
 refine cT ?_
 refine sgsD [.det (.slice none 0 0),.det (.bool false),.det (.bool false),.det (.int .i64 2)] [0,1,2,3] [0,1,3,7] (fun L d=>D d 0 4++([.slice none 0 0,.bool false,.bool false,.int .i64 2]++D d 8 45)) (fun L=>[]) hp2 ⟨
  oA,oA,oA,oA,
  trivial⟩ (fun L2 d2 w3 hp3=>?_)
 refine wp_ret ?_
 refine bodyPost_ret (v:=.tuple #[.slice none 0 0,.bool false,.bool false,.int .i64 2]) ?_ rfl ?_
 ·exact res_4 rfl (by kernel_rfl) (by kernel_rfl) (by kernel_rfl) (by kernel_rfl) _
 ·exact ⟨rfl,hp3.bel⟩
theorem ref5hdLong (p:Option Addr) (n c N:Nat) (w:World) (hn:N<n):Calls Tryz.prog 57 #[.slice p n c,.int .i64 N] w (Ret (.tuple #[.slice none 0 0,.bool false,.bool false,.int .i64 8]) w):=by
 have hp0:=Heap.start w
 go_enter Tryz.func57,Tryz.ntmps57
 refine sgsD [.det (.slice none 0 0),.det (.bool false),.det (.bool false),.det (.int .i64 0)] [0,1,2,3] [0,1,3,7] (fun L d=>[.slice p n c,.int .i64 N]++D d 2 51) (fun L=>[]) hp0 ⟨
  oA,oA,oA,oA,
  trivial⟩ (fun L0 d0 w1 hp1=>?_)
 refine wp_seq_k (fun K2 k2=>?_)
 refine sgsD [.det (.slice p n c),.det (.int .i64 n),.det (.int .i64 N),.det (.bool false)] [0,1,2,3] [0,1,0,7] (fun L d=>[.slice p n c,.int .i64 N]++(D d 2 12++([.bool false]++D d 15 38))) (fun L=>[]) hp1 ⟨
  oM,fun h=>⟨ob_len (p:=p) (n:=n) (c:=c) (fun _=>rfl) h rfl (fun _=>by kernel_rfl) Tryz.underlying45⟩,oM,oJ .i64 .i64 n N (h:=fun w=>(lssI _ _ _ w).trans (by rw [decide_eq_false (by omega)])),
  trivial⟩ (fun L1 d1 w2 hp2=>?_)
 refine cfk (k2 _ _ ?_)
 refine wp_seq_k (fun K4 k4=>?_)
 refine sgsD [.det (.slice p n c),.det (.int .i64 n),.det (.int .i64 N),.det (.bool true)] [0,1,2,3] [0,1,0,7] (fun L d=>D d 0 18++([.bool true]++D d 19 34)) (fun L=>[]) hp2 ⟨
  oM,fun h=>⟨ob_len (p:=p) (n:=n) (c:=c) (fun _=>rfl) h rfl (fun _=>by kernel_rfl) Tryz.underlying45⟩,oM,oJ .i64 .i64 n N (h:=fun w=>(gtrI _ _ _ w).trans (by rw [decide_eq_true (by omega)])),
  trivial⟩ (fun L2 d2 w3 hp3=>?_)
 refine cT ?_
 refine sgsD [.det (.slice none 0 0),.det (.bool false),.det (.bool false),.det (.int .i64 8)] [0,1,2,3] [0,1,3,7] (fun L d=>D d 0 4++([.slice none 0 0,.bool false,.bool false,.int .i64 8]++D d 8 45)) (fun L=>[]) hp3 ⟨
  oA,oA,oA,oA,
  trivial⟩ (fun L3 d3 w4 hp4=>?_)
 refine wp_ret ?_
 refine bodyPost_ret (v:=.tuple #[.slice none 0 0,.bool false,.bool false,.int .i64 8]) ?_ rfl ?_
 ·exact res_4 rfl (by kernel_rfl) (by kernel_rfl) (by kernel_rfl) (by kernel_rfl) _
 ·exact ⟨rfl,hp4.bel⟩
theorem ref5hdOk (N:Nat) (p:Option Addr) (c:Nat) (g:Nat→Int) (w:World) (h0:0<N) (hN:N≤1000) (hb:AtK .u8 w p N g) (r0:0≤g 0) (hl:¬ g 0 / 32<4) (h6:¬ 6≤g 0 / 32):Calls Tryz.prog 57 #[.slice p N c,.int .i64 N] w (RetT (fun s=>.tuple #[s,.bool false,.bool (decide (g 0 / 32=5)),.int .i64 0]) (su g 0 (g 0%32)) N w):=by
 have hp0:=Heap.start w
 go_enter Tryz.func57,Tryz.ntmps57
 refine sgsD [.det (.slice none 0 0),.det (.bool false),.det (.bool false),.det (.int .i64 0)] [0,1,2,3] [0,1,3,7] (fun L d=>[.slice p N c,.int .i64 N]++D d 2 51) (fun L=>[]) hp0 ⟨
  oA,oA,oA,oA,
  trivial⟩ (fun L0 d0 w1 hp1=>?_)
 refine wp_seq_k (fun K2 k2=>?_)
 refine sgsD [.det (.slice p N c),.det (.int .i64 N),.det (.int .i64 N),.det (.bool false)] [0,1,2,3] [0,1,0,7] (fun L d=>[.slice p N c,.int .i64 N]++(D d 2 12++([.bool false]++D d 15 38))) (fun L=>[]) hp1 ⟨
  oM,fun h=>⟨ob_len (p:=p) (n:=N) (c:=c) (fun _=>rfl) h rfl (fun _=>by kernel_rfl) Tryz.underlying45⟩,oM,oJ .i64 .i64 N N (h:=fun w=>(lssI _ _ _ w).trans (by rw [decide_eq_false (by omega)])),
  trivial⟩ (fun L1 d1 w2 hp2=>?_)
 refine cfk (k2 _ _ ?_)
 refine wp_seq_k (fun K4 k4=>?_)
 refine sgsD [.det (.slice p N c),.det (.int .i64 N),.det (.int .i64 N),.det (.bool false)] [0,1,2,3] [0,1,0,7] (fun L d=>[.slice p N c]++(D d 1 17++([.bool false]++D d 19 34))) (fun L=>[]) hp2 ⟨
  oM,fun h=>⟨ob_len (p:=p) (n:=N) (c:=c) (fun _=>rfl) h rfl (fun _=>by kernel_rfl) Tryz.underlying45⟩,oM,oJ .i64 .i64 N N (h:=fun w=>(gtrI _ _ _ w).trans (by rw [decide_eq_false (by omega)])),
  trivial⟩ (fun L2 d2 w3 hp3=>?_)
 refine cfk (k4 _ _ ?_)
 refine wp_seq_k (fun K6 k6=>?_)
 refine gsA [.any isE,.det (.slice p N c),.any (isB w.heap.size [] g N),.detV 2 (fun v=>v)] [0,1,2,3] [0,0,3,7] (fun L=>[.slice p N c]++(D d2 1 7++([L.v 2]++(D d2 9 9++([.bool false,L.v 0,.slice p N c,L.v 2]++D d2 22 31))))) (fun L=>[]) hp3 ⟨
  oE0,oM,oApE (n:=N) (c:=c) [] 0 h0 hN hb,oAV,
  trivial⟩ (fun L3 w4 hp4 ha4=>?_)
 obtain ⟨kb3b2,cb3b2,eb3b2,lb3b2,mb3b2,qb3b2,ub3b2,xb3b2⟩:=AnyF.at ha4 (j:=2) rfl rfl
 rw [eb3b2]
 have hp43b2:=Heap.add hp4 qb3b2 ub3b2 xb3b2
 refine k6 _ _ ?_
 refine sgsD [.det (.slice (some ⟨kb3b2,0,none⟩) N cb3b2),.det (.pointer (some ⟨kb3b2,0+0*1,none⟩)),.det (.int .u8 (g 0)),.det (.int .u8 (g 0 / 32)),.det (.int .u8 (g 0 / 32))] (nn 5) [0,1,3,7,15] (fun L d=>D d 0 8++([.slice (some ⟨kb3b2,0,none⟩) N cb3b2,.int .u8 (g 0 / 32)]++D d 10 43)) (fun L=>[(kb3b2,BC g N)]) hp43b2 ⟨
  oM,oIS (n:=N) (c:=cb3b2) 0 Tryz.underlying45 sizeY h0,oLY 0 h0,oJ .u8 .u64 (g 0) 5 (h:=fun w=>shrY _ _ _ 5 rfl (by decide) w),oA,
  trivial⟩ (fun L4 d4 w5 hp5=>?_)
 refine sgsD [.det (.slice (some ⟨kb3b2,0,none⟩) N cb3b2),.det (.slice (some ⟨kb3b2,0,none⟩) N cb3b2),.det (.pointer (some ⟨kb3b2,0+0*1,none⟩)),.det (.int .u8 (g 0)),.det (.int .u8 (g 0%32)),.det (.pointer (some ⟨kb3b2,0+0*1,none⟩)),.store (.base 0) (0+0*1) ([.int .u8 (g 0%32)]) (BC (su g 0 (g 0%32)) N)] (nn 7) [0,0,2,6,14,31,63] (fun L d=>D d 0 8++([.slice (some ⟨kb3b2,0,none⟩) N cb3b2,.int .u8 (g 0 / 32)]++D d 10 43)) (fun L=>[(kb3b2,BC (su g 0 (g 0%32)) N)]) hp5 ⟨
  oM,oM,oIS (n:=N) (c:=cb3b2) 0 Tryz.underlying45 sizeY h0,oLY 0 h0,oJ .u8 .u8 (g 0) 32 (h:=fun w=>remY _ _ _ _ rfl r0 (by decide) w),oIS (n:=N) (c:=cb3b2) 0 Tryz.underlying45 sizeY h0,
  oTY (j:=0) h0,
  trivial⟩ (fun L5 d5 w6 hp6=>?_)
 refine wp_seq_k (fun K9 k9=>?_)
 refine sgsD [.det (.int .u8 (g 0 / 32)),.det (.bool false)] [0,1] [0,1] (fun L d=>D d 0 8++([.slice (some ⟨kb3b2,0,none⟩) N cb3b2,.int .u8 (g 0 / 32)]++(D d 10 23++([.bool false]++D d 34 19)))) (fun L=>[(kb3b2,BC (su g 0 (g 0%32)) N)]) hp6 ⟨
  oM,oJ .u8 .u8 (g 0 / 32) 4 (h:=fun w=>(lssY _ _ _ w).trans (by rw [decide_eq_false hl])),
  trivial⟩ (fun L6 d6 w7 hp7=>?_)
 refine cfk (k9 _ _ ?_)
 refine wp_seq_k (fun K11 k11=>?_)
 refine sgsD [.det (.int .u8 (g 0 / 32)),.det (.bool false)] [0,1] [0,1] (fun L d=>D d 0 8++([.slice (some ⟨kb3b2,0,none⟩) N cb3b2,.int .u8 (g 0 / 32)]++(D d 10 25++([.bool false]++D d 36 17)))) (fun L=>[(kb3b2,BC (su g 0 (g 0%32)) N)]) hp7 ⟨
  oM,oJ .u8 .u8 (g 0 / 32) 6 (h:=fun w=>(geqY _ _ _ w).trans (by rw [decide_eq_false h6])),
  trivial⟩ (fun L7 d7 w8 hp8=>?_)
 refine cfk (k11 _ _ ?_)
 refine sgsD [.det (.slice (some ⟨kb3b2,0,none⟩) N cb3b2),.det (.int .u8 (g 0 / 32)),.det (.bool (decide (g 0 / 32=5))),.det (.slice (some ⟨kb3b2,0,none⟩) N cb3b2),.det (.bool false),.det (.bool (decide (g 0 / 32=5))),.det (.int .i64 0)] (nn 7) [0,0,2,1,9,31,63] (fun L d=>D d 0 4++([.slice (some ⟨kb3b2,0,none⟩) N cb3b2,.bool false,.bool (decide (g 0 / 32=5)),.int .i64 0]++D d 8 45)) (fun L=>[(kb3b2,BC (su g 0 (g 0%32)) N)]) hp8 ⟨
  oM,oM,oJ .u8 .u8 (g 0 / 32) 5 (h:=fun w=>eqlI _ _ _ _ w),oA,oA,oA,oA,
  trivial⟩ (fun L8 d8 w9 hp9=>?_)
 refine wp_ret ?_
 refine bodyPost_ret (v:=.tuple #[.slice (some ⟨kb3b2,0,none⟩) N cb3b2,.bool false,.bool (decide (g 0 / 32=5)),.int .i64 0]) ?_ rfl ?_
 ·exact res_4 rfl (by kernel_rfl) (by kernel_rfl) (by kernel_rfl) (by kernel_rfl) _
 ·exact ⟨_,rfl,⟨_,rfl,kb3b2,cb3b2,rfl,lb3b2,mb3b2,qb3b2,(fun b hb=>by cases hb),(hp9.bound 0 rfl).2⟩,hp9.bel⟩
def hdI (N:Nat) (p:Option Addr) (c:Nat) (g:Nat→Int) (w:World) (k cp:Nat):Nat→Act→World→Prop:=fun L a' w'=>∃ (i:Nat) (d:Nat→Value),a'={ tmps:=([.slice p N c,.int .i64 N]++(D d 2 6++([.slice (some ⟨k,0,none⟩) N cp,.int .u8 (g 0 / 32),.int .i64 (i:Int)]++D d 11 42)):List Value).toArray,defers:=[] }∧i+L=N∧(∀ j,j<i→(su g 0 (g 0%32)) j=0)∧(0<i→¬ g 0 / 32=7)∧Heap w.heap.size w w' [(k,BC (su g 0 (g 0%32)) N)]
theorem ref5hdBig (N:Nat) (p:Option Addr) (c:Nat) (g:Nat→Int) (w:World) (h0:0<N) (hN:N≤1000) (hb:AtK .u8 w p N g) (r0:0≤g 0) (hl:¬ g 0 / 32<4) (h6:6≤g 0 / 32):Calls Tryz.prog 57 #[.slice p N c,.int .i64 N] w (Ret (bif hdz g N then .tuple #[.slice none 0 0,.bool true,.bool false,.int .i64 0] else .tuple #[.slice none 0 0,.bool false,.bool false,.int .i64 3]) w):=by
 have hp0:=Heap.start w
 go_enter Tryz.func57,Tryz.ntmps57
 refine sgsD [.det (.slice none 0 0),.det (.bool false),.det (.bool false),.det (.int .i64 0)] [0,1,2,3] [0,1,3,7] (fun L d=>[.slice p N c,.int .i64 N]++D d 2 51) (fun L=>[]) hp0 ⟨
  oA,oA,oA,oA,
  trivial⟩ (fun L0 d0 w1 hp1=>?_)
 refine wp_seq_k (fun K2 k2=>?_)
 refine sgsD [.det (.slice p N c),.det (.int .i64 N),.det (.int .i64 N),.det (.bool false)] [0,1,2,3] [0,1,0,7] (fun L d=>[.slice p N c,.int .i64 N]++(D d 2 12++([.bool false]++D d 15 38))) (fun L=>[]) hp1 ⟨
  oM,fun h=>⟨ob_len (p:=p) (n:=N) (c:=c) (fun _=>rfl) h rfl (fun _=>by kernel_rfl) Tryz.underlying45⟩,oM,oJ .i64 .i64 N N (h:=fun w=>(lssI _ _ _ w).trans (by rw [decide_eq_false (by omega)])),
  trivial⟩ (fun L1 d1 w2 hp2=>?_)
 refine cfk (k2 _ _ ?_)
 refine wp_seq_k (fun K4 k4=>?_)
 refine sgsD [.det (.slice p N c),.det (.int .i64 N),.det (.int .i64 N),.det (.bool false)] [0,1,2,3] [0,1,0,7] (fun L d=>[.slice p N c,.int .i64 N]++(D d 2 16++([.bool false]++D d 19 34))) (fun L=>[]) hp2 ⟨
  oM,fun h=>⟨ob_len (p:=p) (n:=N) (c:=c) (fun _=>rfl) h rfl (fun _=>by kernel_rfl) Tryz.underlying45⟩,oM,oJ .i64 .i64 N N (h:=fun w=>(gtrI _ _ _ w).trans (by rw [decide_eq_false (by omega)])),
  trivial⟩ (fun L2 d2 w3 hp3=>?_)
 refine cfk (k4 _ _ ?_)
 refine wp_seq_k (fun K6 k6=>?_)
 refine gsA [.any isE,.det (.slice p N c),.any (isB w.heap.size [] g N),.detV 2 (fun v=>v)] [0,1,2,3] [0,0,3,7] (fun L=>[.slice p N c,.int .i64 N]++(D d2 2 6++([L.v 2]++(D d2 9 9++([.bool false,L.v 0,.slice p N c,L.v 2]++D d2 22 31))))) (fun L=>[]) hp3 ⟨
  oE0,oM,oApE (n:=N) (c:=c) [] 0 h0 hN hb,oAV,
  trivial⟩ (fun L3 w4 hp4 ha4=>?_)
 obtain ⟨kb3b2,cb3b2,eb3b2,lb3b2,mb3b2,qb3b2,ub3b2,xb3b2⟩:=AnyF.at ha4 (j:=2) rfl rfl
 rw [eb3b2]
 have hp43b2:=Heap.add hp4 qb3b2 ub3b2 xb3b2
 refine k6 _ _ ?_
 refine sgsD [.det (.slice (some ⟨kb3b2,0,none⟩) N cb3b2),.det (.pointer (some ⟨kb3b2,0+0*1,none⟩)),.det (.int .u8 (g 0)),.det (.int .u8 (g 0 / 32)),.det (.int .u8 (g 0 / 32))] (nn 5) [0,1,3,7,15] (fun L d=>[.slice p N c,.int .i64 N]++(D d 2 6++([.slice (some ⟨kb3b2,0,none⟩) N cb3b2,.int .u8 (g 0 / 32)]++D d 10 43))) (fun L=>[(kb3b2,BC g N)]) hp43b2 ⟨
  oM,oIS (n:=N) (c:=cb3b2) 0 Tryz.underlying45 sizeY h0,oLY 0 h0,oJ .u8 .u64 (g 0) 5 (h:=fun w=>shrY _ _ _ 5 rfl (by decide) w),oA,
  trivial⟩ (fun L4 d4 w5 hp5=>?_)
 refine sgsD [.det (.slice (some ⟨kb3b2,0,none⟩) N cb3b2),.det (.slice (some ⟨kb3b2,0,none⟩) N cb3b2),.det (.pointer (some ⟨kb3b2,0+0*1,none⟩)),.det (.int .u8 (g 0)),.det (.int .u8 (g 0%32)),.det (.pointer (some ⟨kb3b2,0+0*1,none⟩)),.store (.base 0) (0+0*1) ([.int .u8 (g 0%32)]) (BC (su g 0 (g 0%32)) N)] (nn 7) [0,0,2,6,14,31,63] (fun L d=>[.slice p N c,.int .i64 N]++(D d 2 6++([.slice (some ⟨kb3b2,0,none⟩) N cb3b2,.int .u8 (g 0 / 32)]++D d 10 43))) (fun L=>[(kb3b2,BC (su g 0 (g 0%32)) N)]) hp5 ⟨
  oM,oM,oIS (n:=N) (c:=cb3b2) 0 Tryz.underlying45 sizeY h0,oLY 0 h0,oJ .u8 .u8 (g 0) 32 (h:=fun w=>remY _ _ _ _ rfl r0 (by decide) w),oIS (n:=N) (c:=cb3b2) 0 Tryz.underlying45 sizeY h0,
  oTY (j:=0) h0,
  trivial⟩ (fun L5 d5 w6 hp6=>?_)
 refine wp_seq_k (fun K9 k9=>?_)
 refine sgsD [.det (.int .u8 (g 0 / 32)),.det (.bool false)] [0,1] [0,1] (fun L d=>[.slice p N c,.int .i64 N]++(D d 2 6++([.slice (some ⟨kb3b2,0,none⟩) N cb3b2,.int .u8 (g 0 / 32)]++(D d 10 23++([.bool false]++D d 34 19))))) (fun L=>[(kb3b2,BC (su g 0 (g 0%32)) N)]) hp6 ⟨
  oM,oJ .u8 .u8 (g 0 / 32) 4 (h:=fun w=>(lssY _ _ _ w).trans (by rw [decide_eq_false hl])),
  trivial⟩ (fun L6 d6 w7 hp7=>?_)
 refine cfk (k9 _ _ ?_)
 refine wp_seq_k (fun K11 k11=>?_)
 refine sgsD [.det (.int .u8 (g 0 / 32)),.det (.bool true)] [0,1] [0,1] (fun L d=>[.slice p N c,.int .i64 N]++(D d 2 6++([.slice (some ⟨kb3b2,0,none⟩) N cb3b2,.int .u8 (g 0 / 32)]++(D d 10 25++([.bool true]++D d 36 17))))) (fun L=>[(kb3b2,BC (su g 0 (g 0%32)) N)]) hp7 ⟨
  oM,oJ .u8 .u8 (g 0 / 32) 6 (h:=fun w=>(geqY _ _ _ w).trans (by rw [decide_eq_true h6])),
  trivial⟩ (fun L7 d7 w8 hp8=>?_)
 refine cT ?_
 refine wp_seq_k (fun K13 k13=>?_)
 refine sgsD [.det (.int .i64 0)] [0] [0] (fun L d=>[.slice p N c,.int .i64 N]++(D d 2 6++([.slice (some ⟨kb3b2,0,none⟩) N cb3b2,.int .u8 (g 0 / 32),.int .i64 0]++D d 11 42))) (fun L=>[(kb3b2,BC (su g 0 (g 0%32)) N)]) hp8 ⟨
  oA,
  trivial⟩ (fun L8 d8 w9 hp9=>?_)
 refine wp_block_k (fun K15 k15=>?_)
 refine wp_loop_ghost (hdI N p c g w kb3b2 cb3b2) N ⟨0,d8,rfl,by omega,fun j hj=>absurd hj (by omega),fun hj=>absurd hj (by omega),hp9⟩ ?_
 rintro L a' W ⟨i,d,rfl,hL,hz,hs7,hJ⟩
 rcases Nat.lt_or_ge i N with hi | hi
 ·skip
  by_cases hx:(su g 0 (g 0%32)) i=0
  ·skip
   by_cases h7:g 0 / 32=7
   ·skip
    refine wp_seq_k (fun K16 k16=>?_)
    refine sgsD [.det (.int .i64 (i:Int)),.det (.int .i64 N),.det (.bool true)] [0,1,2] [0,0,3] (fun L d=>[.slice p N c,.int .i64 N]++(D d 2 6++([.slice (some ⟨kb3b2,0,none⟩) N cb3b2,.int .u8 (g 0 / 32),.int .i64 (i:Int)]++(D d 11 27++([.bool true]++D d 39 14))))) (fun L=>[(kb3b2,BC (su g 0 (g 0%32)) N)]) hJ ⟨
     oM,oM,oJ .i64 .i64 (i:Int) N (h:=fun w=>(lssI _ _ _ w).trans (by rw [decide_eq_true (by omega)])),
     trivial⟩ (fun L9 d9 w10 hp10=>?_)
    refine cT ?_
    refine skips ?_
    refine k16 _ _ ?_
    refine wp_seq_k (fun K18 k18=>?_)
    refine wp_block_k (fun K19 k19=>?_)
    refine sgsD [.det (.slice (some ⟨kb3b2,0,none⟩) N cb3b2),.det (.int .i64 (i:Int)),.det (.pointer (some ⟨kb3b2,0+i*1,none⟩)),.det (.int .u8 ((su g 0 (g 0%32)) i)),.det (.bool false),.det (.bool false),.det (.int .u8 (g 0 / 32)),.det (.bool true),.det (.bool true)] (nn 9) [0,0,3,7,15,31,63,127,255] (fun L d=>[.slice p N c,.int .i64 N]++(D d 2 6++([.slice (some ⟨kb3b2,0,none⟩) N cb3b2,.int .u8 (g 0 / 32),.int .i64 (i:Int)]++(D d 11 38++([.bool true]++D d 50 3))))) (fun L=>[(kb3b2,BC (su g 0 (g 0%32)) N)]) hp10 ⟨
     oM,oM,oIS (n:=N) (c:=cb3b2) i Tryz.underlying45 sizeY hi,oLY 0 hi,oJ .u8 .u8 ((su g 0 (g 0%32)) i) 0 (h:=fun w=>(neqI _ _ _ _ w).trans (by rw [decide_eq_true hx];rfl)),
     oM,oM,oJ .u8 .u8 (g 0 / 32) 7 (h:=fun w=>(eqlI _ _ _ _ w).trans (by rw [decide_eq_true h7])),oP,
     trivial⟩ (fun L10 d10 w11 hp11=>?_)
    refine cT ?_
    refine sgsD [.det (.slice none 0 0),.det (.bool false),.det (.bool false),.det (.int .i64 3)] [0,1,2,3] [0,1,3,7] (fun L d=>[.slice p N c,.int .i64 N]++(D d 2 2++([.slice none 0 0,.bool false,.bool false,.int .i64 3,.slice (some ⟨kb3b2,0,none⟩) N cb3b2,.int .u8 (g 0 / 32),.int .i64 (i:Int)]++D d 11 42))) (fun L=>[(kb3b2,BC (su g 0 (g 0%32)) N)]) hp11 ⟨
     oA,oA,oA,oA,
     trivial⟩ (fun L11 d11 w12 hp12=>?_)
    refine wp_ret ?_
    refine k19 _ _ _ ?_
    refine k15 _ _ _ ?_
    refine bodyPost_ret (v:=.tuple #[.slice none 0 0,.bool false,.bool false,.int .i64 3]) ?_ rfl ?_
    ·exact res_4 rfl (by kernel_rfl) (by kernel_rfl) (by kernel_rfl) (by kernel_rfl) _
    ·exact ⟨hd_bad (fun h=>h.2 h7),hp12.bel⟩
   ·skip
    refine wp_seq_k (fun K22 k22=>?_)
    refine sgsD [.det (.int .i64 (i:Int)),.det (.int .i64 N),.det (.bool true)] [0,1,2] [0,0,3] (fun L d=>[.slice p N c,.int .i64 N]++(D d 2 6++([.slice (some ⟨kb3b2,0,none⟩) N cb3b2,.int .u8 (g 0 / 32),.int .i64 (i:Int)]++(D d 11 27++([.bool true]++D d 39 14))))) (fun L=>[(kb3b2,BC (su g 0 (g 0%32)) N)]) hJ ⟨
     oM,oM,oJ .i64 .i64 (i:Int) N (h:=fun w=>(lssI _ _ _ w).trans (by rw [decide_eq_true (by omega)])),
     trivial⟩ (fun L12 d12 w13 hp13=>?_)
    refine cT ?_
    refine skips ?_
    refine k22 _ _ ?_
    refine wp_seq_k (fun K24 k24=>?_)
    refine wp_block_k (fun K25 k25=>?_)
    refine sgsD [.det (.slice (some ⟨kb3b2,0,none⟩) N cb3b2),.det (.int .i64 (i:Int)),.det (.pointer (some ⟨kb3b2,0+i*1,none⟩)),.det (.int .u8 ((su g 0 (g 0%32)) i)),.det (.bool false),.det (.bool false),.det (.int .u8 (g 0 / 32)),.det (.bool false),.det (.bool false)] (nn 9) [0,0,3,7,15,31,63,127,255] (fun L d=>[.slice p N c,.int .i64 N]++(D d 2 6++([.slice (some ⟨kb3b2,0,none⟩) N cb3b2,.int .u8 (g 0 / 32),.int .i64 (i:Int)]++(D d 11 38++([.bool false]++D d 50 3))))) (fun L=>[(kb3b2,BC (su g 0 (g 0%32)) N)]) hp13 ⟨
     oM,oM,oIS (n:=N) (c:=cb3b2) i Tryz.underlying45 sizeY hi,oLY 0 hi,oJ .u8 .u8 ((su g 0 (g 0%32)) i) 0 (h:=fun w=>(neqI _ _ _ _ w).trans (by rw [decide_eq_true hx];rfl)),
     oM,oM,oJ .u8 .u8 (g 0 / 32) 7 (h:=fun w=>(eqlI _ _ _ _ w).trans (by rw [decide_eq_false h7])),oP,
     trivial⟩ (fun L13 d13 w14 hp14=>?_)
    refine cF ?_
    refine skips ?_
    refine k25 _ _ _ ?_
    refine block_normal ?_
    refine k24 _ _ ?_
    refine gsD [.det (.int .i64 (i:Int)),.det (.int .i64 ((i+1:Nat):Int)),.det (.int .i64 ((i+1:Nat):Int))] [0,1,2] [0,1,3] (fun L d=>[.slice p N c,.int .i64 N]++(D d 2 6++([.slice (some ⟨kb3b2,0,none⟩) N cb3b2,.int .u8 (g 0 / 32),.int .i64 ((i+1:Nat):Int)]++D d 11 42))) (fun L=>[(kb3b2,BC (su g 0 (g 0%32)) N)]) hp14 ⟨
     oM,oJ .i64 .i64 (i:Int) 1 (h:=fun w=>add1N _ i (by omega) w),oA,
     trivial⟩ (fun L14 d14 w15 hp15=>?_)
    exact ⟨L-1,by omega,i+1,d14,rfl,by omega,hd_more hz hx,fun _=>h7,hp15⟩
  ·skip
   refine wp_seq_k (fun K27 k27=>?_)
   refine sgsD [.det (.int .i64 (i:Int)),.det (.int .i64 N),.det (.bool true)] [0,1,2] [0,0,3] (fun L d=>[d 0,.int .i64 N]++(D d 2 6++([.slice (some ⟨kb3b2,0,none⟩) N cb3b2,d 9,.int .i64 (i:Int)]++(D d 11 27++([.bool true]++D d 39 14))))) (fun L=>[(kb3b2,BC (su g 0 (g 0%32)) N)]) hJ ⟨
    oM,oM,oJ .i64 .i64 (i:Int) N (h:=fun w=>(lssI _ _ _ w).trans (by rw [decide_eq_true (by omega)])),
    trivial⟩ (fun L15 d15 w16 hp16=>?_)
   refine cT ?_
   refine skips ?_
   refine k27 _ _ ?_
   refine wp_seq_k (fun K29 k29=>?_)
   refine wp_block_k (fun K30 k30=>?_)
   refine sgsD [.det (.slice (some ⟨kb3b2,0,none⟩) N cb3b2),.det (.int .i64 (i:Int)),.det (.pointer (some ⟨kb3b2,0+i*1,none⟩)),.det (.int .u8 ((su g 0 (g 0%32)) i)),.det (.bool true),.det (.bool true),.det undef,.det undef,.det (.bool true)] (nn 9) [0,0,3,7,15,31,63,127,255] (fun L d=>[d 0,.int .i64 N]++(D d 2 8++([.int .i64 (i:Int)]++(D d 11 38++([.bool true]++D d 50 3))))) (fun L=>[(kb3b2,BC (su g 0 (g 0%32)) N)]) hp16 ⟨
    oM,oM,oIS (n:=N) (c:=cb3b2) i Tryz.underlying45 sizeY hi,oLY 0 hi,oJ .u8 .u8 ((su g 0 (g 0%32)) i) 0 (h:=fun w=>(neqI _ _ _ _ w).trans (by rw [decide_eq_false hx];rfl)),
    oM,oS,oS,oP,
    trivial⟩ (fun L16 d16 w17 hp17=>?_)
   refine cT ?_
   refine sgsD [.det (.slice none 0 0),.det (.bool false),.det (.bool false),.det (.int .i64 3)] [0,1,2,3] [0,1,3,7] (fun L d=>[d 0,.int .i64 N]++(D d 2 2++([.slice none 0 0,.bool false,.bool false,.int .i64 3]++(D d 8 2++([.int .i64 (i:Int)]++D d 11 42))))) (fun L=>[(kb3b2,BC (su g 0 (g 0%32)) N)]) hp17 ⟨
    oA,oA,oA,oA,
    trivial⟩ (fun L17 d17 w18 hp18=>?_)
   refine wp_ret ?_
   refine k30 _ _ _ ?_
   refine k15 _ _ _ ?_
   refine bodyPost_ret (v:=.tuple #[.slice none 0 0,.bool false,.bool false,.int .i64 3]) ?_ rfl ?_
   ·exact res_4 rfl (by kernel_rfl) (by kernel_rfl) (by kernel_rfl) (by kernel_rfl) _
   ·exact ⟨hd_bad (fun h=>hx (h.1 i hi)),hp18.bel⟩
 refine wp_seq_k (fun K33 k33=>?_)
 refine sgsD [.det (.int .i64 (i:Int)),.det (.int .i64 N),.det (.bool false)] [0,1,2] [0,0,3] (fun L d=>D d 0 38++([.bool false]++D d 39 14)) (fun L=>[(kb3b2,BC (su g 0 (g 0%32)) N)]) hJ ⟨
  oM,oM,oJ .i64 .i64 (i:Int) N (h:=fun w=>(lssI _ _ _ w).trans (by rw [decide_eq_false (by omega)])),
  trivial⟩ (fun L18 d18 w19 hp19=>?_)
 refine cF ?_
 refine wp_exit ?_
 refine then_exit ?_
 refine then_exit ?_
 refine k15 _ _ _ ?_
 refine exit_in ?_
 refine k13 _ _ ?_
 refine sgsD [.det (.slice none 0 0),.det (.bool true),.det (.bool false),.det (.int .i64 0)] [0,1,2,3] [0,1,3,7] (fun L d=>D d 0 4++([.slice none 0 0,.bool true,.bool false,.int .i64 0]++D d 8 45)) (fun L=>[(kb3b2,BC (su g 0 (g 0%32)) N)]) hp19 ⟨
  oA,oA,oA,oA,
  trivial⟩ (fun L19 d19 w20 hp20=>?_)
 refine wp_ret ?_
 refine bodyPost_ret (v:=.tuple #[.slice none 0 0,.bool true,.bool false,.int .i64 0]) ?_ rfl ?_
 ·exact res_4 rfl (by kernel_rfl) (by kernel_rfl) (by kernel_rfl) (by kernel_rfl) _
 ·exact ⟨hd_good hi hz (hs7 (by omega)),hp20.bel⟩
end Go.Proofs.YtmibajbpimcfnaaGreatDoor.fpn
