/- Texts laid together. -/
import Derived.Test.YtmibajbpimcfnaaGreatDoorPA
import Derived.Test.YtmibajbpimcfnaaGreatDoorGO
import Derived.Test.YtmibajbpimcfnaaGreatDoorPE
set_option linter.unusedVariables false
set_option linter.unusedSimpArgs false
set_option maxRecDepth 4000
set_option maxHeartbeats 4000000
/- PointReads2 walked. -/
namespace Go.Proofs.YtmibajbpimcfnaaGreatDoor.fpn
open Go.RowKit Pl EC
theorem reads2a {G:World→Prop} (K:PtK G) (R:RefK) (p:Option Addr) (n c:Nat) (g:Nat→Int) (w:World) (hg:G w) (l1:n≤c) (l2:c≤9223372036854775807) (hb:AtK .u8 w p n g) (rg:∀ j,j<n→0≤g j∧g j<256) (hl:200<n):Calls Tryz.prog 5 #[.slice p n c] w (Ret (.bool true) w):=by
 have hp0:=Heap.start w
 go_enter Tryz.func5,Tryz.ntmps5
 refine sgsD [.det (.bool false)] [0] [0] (fun L d=>[.slice p n c]++D d 1 29) (fun L=>[]) hp0 ⟨
  oA,
  trivial⟩ (fun L0 _ w1 hp1=>?_)
 refine wp_seq_k (fun K2 k2=>?_)
 refine sgsD [.det (.bool true),.det (.bool false)] [0,1] [0,1] (fun L d=>[.slice p n c]++(D d 1 7++([.bool false]++D d 9 21))) (fun L=>[]) hp1 ⟨
  oC K.stay hg (begun10 K R),oN,
  trivial⟩ (fun L1 _ w2 hp2=>?_)
 refine cfk (k2 _ _ ?_)
 refine wp_seq_k (fun K4 k4=>?_)
 refine sgsD [.det (.slice p n c),.det (.int .i64 n),.det (.bool true)] [0,1,2] [0,1,3] (fun L d=>D d 0 11++([.bool true]++D d 12 18)) (fun L=>[]) hp2 ⟨
  oM,fun h=>⟨ob_len (p:=p) (n:=n) (c:=c) (fun _=>rfl) h rfl (fun _=>by kernel_rfl) Tryz.underlying45⟩,oJ .i64 .i64 n 200 (h:=fun w=>(gtrI _ _ _ w).trans (by rw [decide_eq_true (by omega)])),
  trivial⟩ (fun L2 _ w3 hp3=>?_)
 refine cT ?_
 refine sgsD [.det (.bool true)] [0] [0] (fun L d=>D d 0 2++([.bool true]++D d 3 27)) (fun L=>[]) hp3 ⟨
  oA,
  trivial⟩ (fun L3 _ w4 hp4=>?_)
 refine wp_ret ?_
 refine bodyPost_ret (v:=.bool true) ?_ rfl ?_
 ·exact res_t rfl (by kernel_rfl) _
 ·exact ⟨rfl,hp4.bel⟩
theorem reads2b {G:World→Prop} (K:PtK G) (R:RefK) (p:Option Addr) (n c:Nat) (g:Nat→Int) (P:T2.G2p) (e:Int) (w:World) (hg:G w) (l1:n≤c) (l2:c≤9223372036854775807) (hb:AtK .u8 w p n g) (rg:∀ j,j<n→0≤g j∧g j<256) (hl:¬ 200<n) (ht:T2.tkB g n=.tuple #[T2.GV P,.int .i64 e]):Calls Tryz.prog 5 #[.slice p n c] w (Ret (.bool true) w):=by
 have hp0:=Heap.start w
 go_enter Tryz.func5,Tryz.ntmps5
 refine sgsD [.det (.bool false)] [0] [0] (fun L d=>[.slice p n c]++D d 1 29) (fun L=>[]) hp0 ⟨
  oA,
  trivial⟩ (fun L0 _ w1 hp1=>?_)
 refine wp_seq_k (fun K2 k2=>?_)
 refine sgsD [.det (.bool true),.det (.bool false)] [0,1] [0,1] (fun L d=>[.slice p n c]++(D d 1 7++([.bool false]++D d 9 21))) (fun L=>[]) hp1 ⟨
  oC K.stay hg (begun10 K R),oN,
  trivial⟩ (fun L1 _ w2 hp2=>?_)
 refine cfk (k2 _ _ ?_)
 refine wp_seq_k (fun K4 k4=>?_)
 refine sgsD [.det (.slice p n c),.det (.int .i64 n),.det (.bool false)] [0,1,2] [0,1,3] (fun L d=>[.slice p n c]++(D d 1 10++([.bool false]++D d 12 18))) (fun L=>[]) hp2 ⟨
  oM,fun h=>⟨ob_len (p:=p) (n:=n) (c:=c) (fun _=>rfl) h rfl (fun _=>by kernel_rfl) Tryz.underlying45⟩,oJ .i64 .i64 n 200 (h:=fun w=>(gtrI _ _ _ w).trans (by rw [decide_eq_false (by omega)])),
  trivial⟩ (fun L2 _ w3 hp3=>?_)
 refine cfk (k4 _ _ ?_)
 refine sgsD [.det (.slice p n c),.det (.tuple #[T2.GV P,.int .i64 e]),.det (.tuple #[T2.GV P,.int .i64 e]),.det (T2.GV P),.det (.int .i64 e),.alloc (T2.GC ⟨0,0,false⟩),.store (.new 5) 0 (T2.GC P) (T2.GC P),.det (.int .i64 e)] (Pl.nn 8) [0,1,3,7,7,0,47,127] (fun L d=>[.slice p n c]++(D d 1 2++([L.p 5,.int .i64 e]++D d 5 25))) (fun L=>[(L.b 5,T2.GC P)]) hp3 ⟨
  oM,oH (v:=.tuple #[T2.GV P,.int .i64 e]) (vs:=#[.slice p n c]) (fun w hx _=>by rw [← ht];exact K.take2 p n c g w (K.stay hg hx) l1 l2 (AtK.below hb hx) rg),
  oM,oX,oX,oZ T2.rG,oT T2.rG,oA,
  trivial⟩ (fun L3 _ w4 hp4=>?_)
 refine sgsD [.det (.slice p n c),.det (.tuple #[T2.GV P,.int .i64 e]),.det (.tuple #[T2.GV P,.int .i64 e]),.det (T2.GV P),.det (.int .i64 e),.alloc (T2.GC ⟨0,0,false⟩),.store (.new 5) 0 (T2.GC P) (T2.GC P),.det (.int .i64 e)] (Pl.nn 8) [0,1,3,7,7,0,47,127] (fun L d=>D d 0 3++([L3.p 5,.int .i64 e,L.p 5,.int .i64 e]++D d 7 23)) (fun L=>[(L3.b 5,T2.GC P),(L.b 5,T2.GC P)]) hp4 ⟨
  oM,oH (v:=.tuple #[T2.GV P,.int .i64 e]) (vs:=#[.slice p n c]) (fun w hx _=>by rw [← ht];exact T2.ref5Take2 R p n c g w (AtK.below hb hx) rg),oM,oX,
  oX,oZ T2.rG,oT T2.rG,oA,
  trivial⟩ (fun L4 _ w5 hp5=>?_)
 refine sgsD [.det (T2.GV P),.det (T2.GV P),.det (.bool true),.det (.bool true),.det (.int .i64 e),.det (.int .i64 e),.det (.bool true),.det (.bool true),.det (.bool true)] (Pl.nn 9) [0,0,3,7,15,15,63,127,255] (fun L d=>D d 0 2++([.bool true]++D d 3 27)) (fun L=>[(L3.b 5,T2.GC P),(L4.b 5,T2.GC P)]) hp5 ⟨
  oL 0 0 T2.rG,oL 1 0 T2.rG,oE (a:=P) (b:=P) T2.qG (yes rfl),oM,oM,oM,oJ .i64 .i64 e e (h:=fun w=>(eqlI _ _ _ _ w).trans (by rw [decide_eq_true rfl])),
  oP,oA,
  trivial⟩ (fun L5 _ w6 hp6=>?_)
 refine wp_ret ?_
 refine bodyPost_ret (v:=.bool true) ?_ rfl ?_
 ·exact res_t rfl (by kernel_rfl) _
 ·exact ⟨rfl,hp6.bel⟩
theorem pointReads2_walk {G:World→Prop} (K:PtK G) (R:RefK) (p:Option Addr) (n c:Nat) (g:Nat→Int) (w:World) (hg:G w) (l1:n≤c) (l2:c≤9223372036854775807) (hb:AtK .u8 w p n g) (rg:∀ j,j<n→0≤g j∧g j<256):Calls Tryz.prog 5 #[.slice p n c] w (Ret (.bool true) w):=by
 by_cases hl:200<n
 ·exact reads2a K R p n c g w hg l1 l2 hb rg hl
 ·obtain ⟨P,e,ht⟩:=tk_some2 g n
  exact reads2b K R p n c g P e w hg l1 l2 hb rg hl ht
end Go.Proofs.YtmibajbpimcfnaaGreatDoor.fpn
