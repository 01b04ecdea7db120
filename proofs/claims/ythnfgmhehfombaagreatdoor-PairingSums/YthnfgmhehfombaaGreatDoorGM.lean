/- Texts laid together. -/
import Derived.Test.YthnfgmhehfombaaGreatDoorGK
import Derived.Test.YthnfgmhehfombaaGreatDoorGO
import Derived.Deep.LoopGhost
import Derived.Test.YthnfgmhehfombaaGreatDoorGL
set_option linter.unusedVariables false
set_option linter.unusedSimpArgs false
set_option maxRecDepth 4000
set_option maxHeartbeats 4000000
/- Package g1: bits, sums of many, multiples. -/
namespace Go.Proofs.YthnfgmhehfombaaGreatDoor.fpn
open Go.RowKit Pl EC
theorem g1bitAt0 {G:World→Prop} (K:FpK G) (k j b:Nat) (w:World) (hg:G w) (hq:j / 64=0) (hb:bits .and .u64 (lb k 0 / 2^(j%64)) 1=(b:Int)):Calls Tryz.prog 152 #[RV k,.int .i64 ((j:Nat):Int)] w (Ret (.int .u64 ((b:Nat):Int)) w):=by
 have hp0:=Heap.start w
 go_enter Tryz.func152,Tryz.ntmps152
 refine sgsD [.alloc (RC k),.det (.int .u64 0)] [0,1] [0,0] (fun L d=>[d 0,.int .i64 ((j:Nat):Int),L.p 0]++D d 3 10) (fun L=>[(L.b 0,RC k)]) hp0 ⟨
  oB,oA,
  trivial⟩ (fun L0 _ w1 hp1=>?_)
 refine sgsD [.det (.int .i64 ((j:Nat):Int)),.det (.int .i64 0),.det (L0.p 0),.det (.int .u64 (lb k 0)),.det (.int .i64 ((j:Nat):Int)),.det (.int .i64 ((j%64:Nat):Int)),.det (.int .u64 (lb k 0 / 2^(j%64))),.det (.int .u64 ((b:Nat):Int)),.det (.int .u64 ((b:Nat):Int))] (nn 9) [0,1,3,7,0,16,63,127,255] (fun L d=>D d 0 4++([.int .u64 ((b:Nat):Int)]++D d 5 8)) (fun L=>[(L0.b 0,RC k)]) hp1 ⟨
  oM,oJ .i64 .i64 ((j:Nat):Int) 64 (h:=fun w=>quo64 _ j 0 (by omega) (by omega) w),oI aR,oL1 0 0 oneU,oM,oJ .i64 .i64 ((j:Nat):Int) 64 (h:=fun w=>rem64 _ j (j%64) rfl w),
  oJ .u64 .i64 (lb k 0) ((j%64:Nat):Int) (h:=fun w=>shrN _ _ _ (by omega) w),oJ .u64 .u64 (lb k 0 / 2^(j%64)) 1 (h:=fun w=>and1 _ _ _ hb w),
  oA,
  trivial⟩ (fun L1 _ w2 hp2=>?_)
 refine wp_ret ?_
 refine bodyPost_ret (v:=.int .u64 ((b:Nat):Int)) ?_ rfl ?_
 ·exact res_t rfl (by kernel_rfl) _
 ·exact ⟨rfl,hp2.bel⟩
theorem g1bitAt1 {G:World→Prop} (K:FpK G) (k j b:Nat) (w:World) (hg:G w) (hq:j / 64=1) (hb:bits .and .u64 (lb k 1 / 2^(j%64)) 1=(b:Int)):Calls Tryz.prog 152 #[RV k,.int .i64 ((j:Nat):Int)] w (Ret (.int .u64 ((b:Nat):Int)) w):=by
 have hp0:=Heap.start w
 go_enter Tryz.func152,Tryz.ntmps152
 refine sgsD [.alloc (RC k),.det (.int .u64 0)] [0,1] [0,0] (fun L d=>[d 0,.int .i64 ((j:Nat):Int),L.p 0]++D d 3 10) (fun L=>[(L.b 0,RC k)]) hp0 ⟨
  oB,oA,
  trivial⟩ (fun L0 _ w1 hp1=>?_)
 refine sgsD [.det (.int .i64 ((j:Nat):Int)),.det (.int .i64 1),.det (pt (L0.b 0) 1),.det (.int .u64 (lb k 1)),.det (.int .i64 ((j:Nat):Int)),.det (.int .i64 ((j%64:Nat):Int)),.det (.int .u64 (lb k 1 / 2^(j%64))),.det (.int .u64 ((b:Nat):Int)),.det (.int .u64 ((b:Nat):Int))] (nn 9) [0,1,3,7,0,16,63,127,255] (fun L d=>D d 0 4++([.int .u64 ((b:Nat):Int)]++D d 5 8)) (fun L=>[(L0.b 0,RC k)]) hp1 ⟨
  oM,oJ .i64 .i64 ((j:Nat):Int) 64 (h:=fun w=>quo64 _ j 1 (by omega) (by omega) w),oI aR,oL1 0 1 oneU,oM,oJ .i64 .i64 ((j:Nat):Int) 64 (h:=fun w=>rem64 _ j (j%64) rfl w),
  oJ .u64 .i64 (lb k 1) ((j%64:Nat):Int) (h:=fun w=>shrN _ _ _ (by omega) w),oJ .u64 .u64 (lb k 1 / 2^(j%64)) 1 (h:=fun w=>and1 _ _ _ hb w),
  oA,
  trivial⟩ (fun L1 _ w2 hp2=>?_)
 refine wp_ret ?_
 refine bodyPost_ret (v:=.int .u64 ((b:Nat):Int)) ?_ rfl ?_
 ·exact res_t rfl (by kernel_rfl) _
 ·exact ⟨rfl,hp2.bel⟩
theorem g1bitAt2 {G:World→Prop} (K:FpK G) (k j b:Nat) (w:World) (hg:G w) (hq:j / 64=2) (hb:bits .and .u64 (lb k 2 / 2^(j%64)) 1=(b:Int)):Calls Tryz.prog 152 #[RV k,.int .i64 ((j:Nat):Int)] w (Ret (.int .u64 ((b:Nat):Int)) w):=by
 have hp0:=Heap.start w
 go_enter Tryz.func152,Tryz.ntmps152
 refine sgsD [.alloc (RC k),.det (.int .u64 0)] [0,1] [0,0] (fun L d=>[d 0,.int .i64 ((j:Nat):Int),L.p 0]++D d 3 10) (fun L=>[(L.b 0,RC k)]) hp0 ⟨
  oB,oA,
  trivial⟩ (fun L0 _ w1 hp1=>?_)
 refine sgsD [.det (.int .i64 ((j:Nat):Int)),.det (.int .i64 2),.det (pt (L0.b 0) 2),.det (.int .u64 (lb k 2)),.det (.int .i64 ((j:Nat):Int)),.det (.int .i64 ((j%64:Nat):Int)),.det (.int .u64 (lb k 2 / 2^(j%64))),.det (.int .u64 ((b:Nat):Int)),.det (.int .u64 ((b:Nat):Int))] (nn 9) [0,1,3,7,0,16,63,127,255] (fun L d=>D d 0 4++([.int .u64 ((b:Nat):Int)]++D d 5 8)) (fun L=>[(L0.b 0,RC k)]) hp1 ⟨
  oM,oJ .i64 .i64 ((j:Nat):Int) 64 (h:=fun w=>quo64 _ j 2 (by omega) (by omega) w),oI aR,oL1 0 2 oneU,oM,oJ .i64 .i64 ((j:Nat):Int) 64 (h:=fun w=>rem64 _ j (j%64) rfl w),
  oJ .u64 .i64 (lb k 2) ((j%64:Nat):Int) (h:=fun w=>shrN _ _ _ (by omega) w),oJ .u64 .u64 (lb k 2 / 2^(j%64)) 1 (h:=fun w=>and1 _ _ _ hb w),
  oA,
  trivial⟩ (fun L1 _ w2 hp2=>?_)
 refine wp_ret ?_
 refine bodyPost_ret (v:=.int .u64 ((b:Nat):Int)) ?_ rfl ?_
 ·exact res_t rfl (by kernel_rfl) _
 ·exact ⟨rfl,hp2.bel⟩
theorem g1bitAt3 {G:World→Prop} (K:FpK G) (k j b:Nat) (w:World) (hg:G w) (hq:j / 64=3) (hb:bits .and .u64 (lb k 3 / 2^(j%64)) 1=(b:Int)):Calls Tryz.prog 152 #[RV k,.int .i64 ((j:Nat):Int)] w (Ret (.int .u64 ((b:Nat):Int)) w):=by
 have hp0:=Heap.start w
 go_enter Tryz.func152,Tryz.ntmps152
 refine sgsD [.alloc (RC k),.det (.int .u64 0)] [0,1] [0,0] (fun L d=>[d 0,.int .i64 ((j:Nat):Int),L.p 0]++D d 3 10) (fun L=>[(L.b 0,RC k)]) hp0 ⟨
  oB,oA,
  trivial⟩ (fun L0 _ w1 hp1=>?_)
 refine sgsD [.det (.int .i64 ((j:Nat):Int)),.det (.int .i64 3),.det (pt (L0.b 0) 3),.det (.int .u64 (lb k 3)),.det (.int .i64 ((j:Nat):Int)),.det (.int .i64 ((j%64:Nat):Int)),.det (.int .u64 (lb k 3 / 2^(j%64))),.det (.int .u64 ((b:Nat):Int)),.det (.int .u64 ((b:Nat):Int))] (nn 9) [0,1,3,7,0,16,63,127,255] (fun L d=>D d 0 4++([.int .u64 ((b:Nat):Int)]++D d 5 8)) (fun L=>[(L0.b 0,RC k)]) hp1 ⟨
  oM,oJ .i64 .i64 ((j:Nat):Int) 64 (h:=fun w=>quo64 _ j 3 (by omega) (by omega) w),oI aR,oL1 0 3 oneU,oM,oJ .i64 .i64 ((j:Nat):Int) 64 (h:=fun w=>rem64 _ j (j%64) rfl w),
  oJ .u64 .i64 (lb k 3) ((j%64:Nat):Int) (h:=fun w=>shrN _ _ _ (by omega) w),oJ .u64 .u64 (lb k 3 / 2^(j%64)) 1 (h:=fun w=>and1 _ _ _ hb w),
  oA,
  trivial⟩ (fun L1 _ w2 hp2=>?_)
 refine wp_ret ?_
 refine bodyPost_ret (v:=.int .u64 ((b:Nat):Int)) ?_ rfl ?_
 ·exact res_t rfl (by kernel_rfl) _
 ·exact ⟨rfl,hp2.bel⟩
theorem g1bitAt {G:World→Prop} (K:FpK G) (k j:Nat) (w:World) (hg:G w) (hk:k<2^256) (hj:j<256) {b:Nat} (hb:k / 2^j%2=b):Calls Tryz.prog 152 #[RV k,.int .i64 (j:Int)] w (Ret (.int .u64 (b:Int)) w):=by
 subst hb
 have h:=lb_and hk hj
 have hq:j / 64<4:=by omega
 rcases (show j / 64=0∨j / 64=1∨j / 64=2∨j / 64=3 by omega) with e | e | e | e<;>rw [e] at h
 ·exact g1bitAt0 K k j _ w hg e h
 ·exact g1bitAt1 K k j _ w hg e h
 ·exact g1bitAt2 K k j _ w hg e h
 ·exact g1bitAt3 K k j _ w hg e h
def AtL (w:World) (p q:Option Addr) (l:List (Pt F × Nat)):Prop:=0<l.length →
 (∃ b off,p=some ⟨b,off,none⟩∧∀ j x,l[j]?=some x→w.rangeAt b (off+j*13) (GC (gp x.1)))∧(∃ b off,q=some ⟨b,off,none⟩∧∀ j x,l[j]?=some x→w.rangeAt b (off+j*4) (RC x.2))
theorem rangeG {w x:World} {b off:Nat} {p:G1p} (h:w.rangeAt b off (GC p)) (k:Below w.heap.size w x):x.rangeAt b off (GC p):=range_up h k
theorem AtL.up {w x:World} {p q:Option Addr} {l:List (Pt F × Nat)} (h:AtL w p q l) (k:Below w.heap.size w x):AtL x p q l:=fun h0=>by
 obtain ⟨⟨b,off,e,hb⟩,b',off',e',hb'⟩:=h h0
 exact ⟨⟨b,off,e,fun j x hx=>rangeG (hb j x hx) k⟩,b',off',e',fun j x hx=>rangeR (hb' j x hx) k⟩
theorem bits_no {a y:Jc F} {j:Nat} {x:Pt F × Nat} {r l:List (Pt F × Nat)} (hy:jbits y j (x :: r)=jbits a j l) (hb:x.2 / 2^j%2=0):jbits y j r=jbits a j l:=by
 rw [← hy,jbits,if_neg (by omega)]
theorem bits_yes {a y:Jc F} {j:Nat} {x:Pt F × Nat} {r l:List (Pt F × Nat)} (hy:jbits y j (x :: r)=jbits a j l) (hb:x.2 / 2^j%2=1):jbits (jplus y x.1) j r=jbits a j l:=by
 rw [← hy,jbits,if_pos hb]
def bitsI (a:Jc F) (p q:Option Addr) (l:List (Pt F × Nat)) (c c0 j:Nat) (w:World) (b4 b8:Nat):Nat→Act→World→Prop:=fun L a' w'=>∃ (i:Nat) (y:Jc F) (u5 u6 u7 u9 u10 u14 u15 u16 u17 u18 u19 u20 u21 u22 u23 u24 u25 u26 u27 u28 u29:Value),
 a'={ tmps:=#[JV a,.slice p l.length c,.slice q l.length c0,.int .i64 ((j:Nat):Int),.pointer (some ⟨b4,0,none⟩),u5,u6,u7,.pointer (some ⟨b8,0,none⟩),u9,u10,.slice p l.length c,.int .i64 l.length,.int .i64 ((i:Nat):Int),u14,u15,u16,u17,u18,u19,u20,u21,u22,u23,u24,u25,u26,u27,u28,u29],defers:=[] }∧i+L=l.length∧jbits y j (l.drop i)=jbits a j l∧Heap w.heap.size w w' [(b4,JC y),(b8,JC ⟨0,0,0⟩)]
theorem g1withBits {G:World→Prop} (K:FpK G) (a:Jc F) (p q:Option Addr) (l:List (Pt F × Nat)) (c c0 j:Nat) (w:World) (hg:G w) (hl:l.length≤1000) (hj:j<256) (hA:AtL w p q l) (hk:∀ x∈l,x.2<2^256):Calls Tryz.prog 141 #[JV a,.slice p l.length c,.slice q l.length c0,.int .i64 (j:Int)] w (Ret (JV (jbits a j l)) w):=by
 have hp0:=Heap.start w
 go_enter Tryz.func141,Tryz.ntmps141
 refine sgs [.alloc (JC a),.alloc (JC ⟨0,0,0⟩)] [0,1] [0,0] (fun L=>[JV a,.slice p l.length c,.slice q l.length c0,.int .i64 ((j:Nat):Int),L.p 0,undef,undef,undef,L.p 1]++U 21) (fun L=>[(L.b 0,JC a),(L.b 1,JC ⟨0,0,0⟩)]) hp0 ⟨
  oB,oZ rJ,
  trivial⟩ (fun L0 w1 hp1=>?_)
 refine wp_seq_k (fun K2 k2=>?_)
 refine sgs [.det (.slice p l.length c),.det (.int .i64 l.length),.det (.int .i64 0)] [0,1,2] [0,1,0] (fun L=>[JV a,.slice p l.length c,.slice q l.length c0,.int .i64 ((j:Nat):Int),L0.p 0,undef,undef,undef,L0.p 1,undef,undef,.slice p l.length c,.int .i64 l.length,.int .i64 0]++U 16) (fun L=>[(L0.b 0,JC a),(L0.b 1,JC ⟨0,0,0⟩)]) hp1 ⟨
  oM,fun h=>⟨ob_len (p:=p) (n:=l.length) (c:=c) (fun _=>rfl) h rfl (fun _=>by kernel_rfl) Tryz.underlying139⟩,oM,
  trivial⟩ (fun L1 w2 hp2=>?_)
 refine wp_block_k (fun K4 k4=>?_)
 refine wp_loop_ghost (bitsI a p q l c c0 j w (L0.b 0) (L0.b 1)) l.length ⟨0,a,undef,undef,undef,undef,undef,undef,undef,undef,undef,undef,undef,undef,undef,undef,undef,undef,undef,undef,undef,undef,undef,rfl,Nat.zero_add _,rfl,hp2⟩ ?_
 rintro L a' W ⟨i,y,u5,u6,u7,u9,u10,u14,u15,u16,u17,u18,u19,u20,u21,u22,u23,u24,u25,u26,u27,u28,u29,rfl,hL,hy,hJ⟩
 by_cases hL0:L=0
 rotate_left
 ·skip
  have hi:i<l.length:=by omega
  obtain ⟨⟨b,off,rfl,hGG⟩,b0,off0,rfl,hRR⟩:=hA (by omega)
  obtain ⟨x,hx,hd⟩:∃ x,l[i]?=some x∧l.drop i=x :: l.drop (i+1):=⟨l[i],List.getElem?_eq_getElem hi,List.drop_eq_getElem_cons hi⟩
  rw [hd] at hy
  have hxk:=hk x (List.mem_of_getElem? hx)
  rcases (show x.2 / 2^j%2=0∨x.2 / 2^j%2=1 by omega) with hb0 | hb1
  ·skip
   refine sgs [.det (.bool true)] [0] [0] (fun L=>[JV a,.slice (some ⟨b,off,none⟩) l.length c,.slice (some ⟨b0,off0,none⟩) l.length c0,.int .i64 ((j:Nat):Int),L0.p 0,u5,u6,u7,L0.p 1,u9,u10,.slice (some ⟨b,off,none⟩) l.length c,.int .i64 l.length,.int .i64 ((i:Nat):Int),.bool true,u15,u16,u17,u18,u19,u20,u21,u22,u23,u24,u25,u26,u27,u28,u29]) (fun L=>[(L0.b 0,JC y),(L0.b 1,JC ⟨0,0,0⟩)]) hJ ⟨
    oJ .i64 .i64 ((i:Nat):Int) l.length (h:=fun w=>(lssI _ _ _ w).trans (by rw [decide_eq_true (by omega)])),
    trivial⟩ (fun L2 w3 hp3=>?_)
   refine wp_seq_k (fun K6 k6=>?_)
   refine cT ?_
   refine skips ?_
   refine k6 _ _ ?_
   refine wp_seq_k (fun K7 k7=>?_)
   refine wp_block_k (fun K8 k8=>?_)
   refine sgs [.det (.int .i64 ((i:Nat):Int)),.det (.pointer (some ⟨b,off+i*13,none⟩)),.det (GV (gp x.1)),.alloc (GC ⟨0,0,false⟩),.det (.int .i64 ((i:Nat):Int)),.store (.new 3) 0 (GC (gp x.1)) (GC (gp x.1))] (nn 6) [0,0,2,0,15,31] (fun L=>[JV a,.slice (some ⟨b,off,none⟩) l.length c,.slice (some ⟨b0,off0,none⟩) l.length c0,.int .i64 ((j:Nat):Int),L0.p 0,u5,u6,u7,L0.p 1,.int .i64 ((i:Nat):Int),L.p 3,.slice (some ⟨b,off,none⟩) l.length c,.int .i64 l.length,.int .i64 ((i:Nat):Int),.bool true,.int .i64 ((i:Nat):Int),.pointer (some ⟨b,off+i*13,none⟩),GV (gp x.1),u18,u19,u20,u21,u22,u23,u24,u25,u26,u27,u28,u29]) (fun L=>[(L0.b 0,JC y),(L0.b 1,JC ⟨0,0,0⟩),(L.b 3,GC (gp x.1))]) hp3 ⟨
    oM,oIS (n:=l.length) (c:=c) i Tryz.underlying139 rG.size hi,oLW rG (fun L w hs=>⟨_,_,rfl,rangeG (hGG i x hx) hs.bel⟩),oZ rG,oA,oT rG,
    trivial⟩ (fun L3 w4 hp4=>?_)
   refine sgs [.det (.slice (some ⟨b0,off0,none⟩) l.length c0),.det (.int .i64 ((i:Nat):Int)),.det (.pointer (some ⟨b0,off0+i*4,none⟩)),.det (RV x.2),.det (.int .i64 ((j:Nat):Int)),.det (.int .u64 0),.det (.bool false)] (nn 7) [0,0,3,7,0,31,63] (fun L=>[JV a,.slice (some ⟨b,off,none⟩) l.length c,.slice (some ⟨b0,off0,none⟩) l.length c0,.int .i64 ((j:Nat):Int),L0.p 0,u5,u6,u7,L0.p 1,.int .i64 ((i:Nat):Int),L3.p 3,.slice (some ⟨b,off,none⟩) l.length c,.int .i64 l.length,.int .i64 ((i:Nat):Int),.bool true,.int .i64 ((i:Nat):Int),.pointer (some ⟨b,off+i*13,none⟩),GV (gp x.1),.slice (some ⟨b0,off0,none⟩) l.length c0,.int .i64 ((i:Nat):Int),.pointer (some ⟨b0,off0+i*4,none⟩),RV x.2,.int .i64 ((j:Nat):Int),.int .u64 0,.bool false,u25,u26,u27,u28,u29]) (fun L=>[(L0.b 0,JC y),(L0.b 1,JC ⟨0,0,0⟩),(L3.b 3,GC (gp x.1))]) hp4 ⟨
    oM,oM,oIS (n:=l.length) (c:=c0) i Tryz.underlying22 rR.size hi,oLW rR (fun L w hs=>⟨_,_,rfl,rangeR (hRR i x hx) hs.bel⟩),oM,oH (v:=.int .u64 0) (vs:=#[RV x.2,.int .i64 ((j:Nat):Int)]) (fun w hb _=>g1bitAt K x.2 j w (K.stay hg hb) hxk hj hb0),
    oJ .u64 .u64 0 1 (h:=fun w=>(eqlI _ _ _ _ w).trans rfl),
    trivial⟩ (fun L4 w5 hp5=>?_)
   refine cF ?_
   refine skips ?_
   refine k8 _ _ _ ?_
   refine block_normal ?_
   refine k7 _ _ ?_
   refine gs [.det (.int .i64 ((i+1:Nat):Int)),.det (.int .i64 ((i+1:Nat):Int))] [0,1] [0,1] (fun L=>[JV a,.slice (some ⟨b,off,none⟩) l.length c,.slice (some ⟨b0,off0,none⟩) l.length c0,.int .i64 ((j:Nat):Int),L0.p 0,u5,u6,u7,L0.p 1,.int .i64 ((i:Nat):Int),L3.p 3,.slice (some ⟨b,off,none⟩) l.length c,.int .i64 l.length,.int .i64 ((i+1:Nat):Int),.bool true,.int .i64 ((i:Nat):Int),.pointer (some ⟨b,off+i*13,none⟩),GV (gp x.1),.slice (some ⟨b0,off0,none⟩) l.length c0,.int .i64 ((i:Nat):Int),.pointer (some ⟨b0,off0+i*4,none⟩),RV x.2,.int .i64 ((j:Nat):Int),.int .u64 0,.bool false,u25,u26,u27,.int .i64 ((i+1:Nat):Int),u29]) (fun L=>[(L0.b 0,JC y),(L0.b 1,JC ⟨0,0,0⟩),(L3.b 3,GC (gp x.1))]) hp5 ⟨
    oJ .i64 .i64 ((i:Nat):Int) 1 (h:=fun w=>add1N _ i (by omega) w),oM,
    trivial⟩ (fun L5 w6 hp6=>?_)
   exact ⟨L-1,by omega,i+1,y,u5,u6,u7,.int .i64 ((i:Nat):Int),L3.p 3,.bool true,.int .i64 ((i:Nat):Int),.pointer (some ⟨b,off+i*13,none⟩),GV (gp x.1),.slice (some ⟨b0,off0,none⟩) l.length c0,.int .i64 ((i:Nat):Int),.pointer (some ⟨b0,off0+i*4,none⟩),RV x.2,.int .i64 ((j:Nat):Int),.int .u64 0,.bool false,u25,u26,u27,.int .i64 ((i+1:Nat):Int),u29,rfl,by omega,bits_no hy hb0,Heap.sub hp6 (List.sublist_append_left [_,_] [_])⟩
  ·skip
   refine sgs [.det (.bool true)] [0] [0] (fun L=>[JV a,.slice (some ⟨b,off,none⟩) l.length c,.slice (some ⟨b0,off0,none⟩) l.length c0,.int .i64 ((j:Nat):Int),L0.p 0,u5,u6,u7,L0.p 1,u9,u10,.slice (some ⟨b,off,none⟩) l.length c,.int .i64 l.length,.int .i64 ((i:Nat):Int),.bool true,u15,u16,u17,u18,u19,u20,u21,u22,u23,u24,u25,u26,u27,u28,u29]) (fun L=>[(L0.b 0,JC y),(L0.b 1,JC ⟨0,0,0⟩)]) hJ ⟨
    oJ .i64 .i64 ((i:Nat):Int) l.length (h:=fun w=>(lssI _ _ _ w).trans (by rw [decide_eq_true (by omega)])),
    trivial⟩ (fun L6 w7 hp7=>?_)
   refine wp_seq_k (fun K12 k12=>?_)
   refine cT ?_
   refine skips ?_
   refine k12 _ _ ?_
   refine wp_seq_k (fun K13 k13=>?_)
   refine wp_block_k (fun K14 k14=>?_)
   refine sgs [.det (.int .i64 ((i:Nat):Int)),.det (.pointer (some ⟨b,off+i*13,none⟩)),.det (GV (gp x.1)),.alloc (GC ⟨0,0,false⟩),.det (.int .i64 ((i:Nat):Int)),.store (.new 3) 0 (GC (gp x.1)) (GC (gp x.1))] (nn 6) [0,0,2,0,15,31] (fun L=>[JV a,.slice (some ⟨b,off,none⟩) l.length c,.slice (some ⟨b0,off0,none⟩) l.length c0,.int .i64 ((j:Nat):Int),L0.p 0,u5,u6,u7,L0.p 1,.int .i64 ((i:Nat):Int),L.p 3,.slice (some ⟨b,off,none⟩) l.length c,.int .i64 l.length,.int .i64 ((i:Nat):Int),.bool true,.int .i64 ((i:Nat):Int),.pointer (some ⟨b,off+i*13,none⟩),GV (gp x.1),u18,u19,u20,u21,u22,u23,u24,u25,u26,u27,u28,u29]) (fun L=>[(L0.b 0,JC y),(L0.b 1,JC ⟨0,0,0⟩),(L.b 3,GC (gp x.1))]) hp7 ⟨
    oM,oIS (n:=l.length) (c:=c) i Tryz.underlying139 rG.size hi,oLW rG (fun L w hs=>⟨_,_,rfl,rangeG (hGG i x hx) hs.bel⟩),oZ rG,oA,oT rG,
    trivial⟩ (fun L7 w8 hp8=>?_)
   refine sgs [.det (.slice (some ⟨b0,off0,none⟩) l.length c0),.det (.int .i64 ((i:Nat):Int)),.det (.pointer (some ⟨b0,off0+i*4,none⟩)),.det (RV x.2),.det (.int .i64 ((j:Nat):Int)),.det (.int .u64 1),.det (.bool true)] (nn 7) [0,0,3,7,0,31,63] (fun L=>[JV a,.slice (some ⟨b,off,none⟩) l.length c,.slice (some ⟨b0,off0,none⟩) l.length c0,.int .i64 ((j:Nat):Int),L0.p 0,u5,u6,u7,L0.p 1,.int .i64 ((i:Nat):Int),L7.p 3,.slice (some ⟨b,off,none⟩) l.length c,.int .i64 l.length,.int .i64 ((i:Nat):Int),.bool true,.int .i64 ((i:Nat):Int),.pointer (some ⟨b,off+i*13,none⟩),GV (gp x.1),.slice (some ⟨b0,off0,none⟩) l.length c0,.int .i64 ((i:Nat):Int),.pointer (some ⟨b0,off0+i*4,none⟩),RV x.2,.int .i64 ((j:Nat):Int),.int .u64 1,.bool true,u25,u26,u27,u28,u29]) (fun L=>[(L0.b 0,JC y),(L0.b 1,JC ⟨0,0,0⟩),(L7.b 3,GC (gp x.1))]) hp8 ⟨
    oM,oM,oIS (n:=l.length) (c:=c0) i Tryz.underlying22 rR.size hi,oLW rR (fun L w hs=>⟨_,_,rfl,rangeR (hRR i x hx) hs.bel⟩),oM,oH (v:=.int .u64 1) (vs:=#[RV x.2,.int .i64 ((j:Nat):Int)]) (fun w hb _=>g1bitAt K x.2 j w (K.stay hg hb) hxk hj hb1),
    oJ .u64 .u64 1 1 (h:=fun w=>(eqlI _ _ _ _ w).trans rfl),
    trivial⟩ (fun L8 w9 hp9=>?_)
   refine cT ?_
   refine gs [.det (JV y),.det (GV (gp x.1)),.det (JV (jplus y x.1)),.store (.base 0) 0 (JC (jplus y x.1)) (JC (jplus y x.1))] [0,1,2,3] [0,0,3,7] (fun L=>[JV a,.slice (some ⟨b,off,none⟩) l.length c,.slice (some ⟨b0,off0,none⟩) l.length c0,.int .i64 ((j:Nat):Int),L0.p 0,u5,u6,u7,L0.p 1,.int .i64 ((i:Nat):Int),L7.p 3,.slice (some ⟨b,off,none⟩) l.length c,.int .i64 l.length,.int .i64 ((i:Nat):Int),.bool true,.int .i64 ((i:Nat):Int),.pointer (some ⟨b,off+i*13,none⟩),GV (gp x.1),.slice (some ⟨b0,off0,none⟩) l.length c0,.int .i64 ((i:Nat):Int),.pointer (some ⟨b0,off0+i*4,none⟩),RV x.2,.int .i64 ((j:Nat):Int),.int .u64 1,.bool true,JV y,GV (gp x.1),JV (jplus y x.1),u28,u29]) (fun L=>[(L0.b 0,JC (jplus y x.1)),(L0.b 1,JC ⟨0,0,0⟩),(L7.b 3,GC (gp x.1))]) hp9 ⟨
    oL 0 0 rJ,oL 2 0 rG,oC K.stay hg (g1plus K y x.1),oT rJ,
    trivial⟩ (fun L9 w10 hp10=>?_)
   refine k14 _ _ _ ?_
   refine block_normal ?_
   refine k13 _ _ ?_
   refine gs [.det (.int .i64 ((i+1:Nat):Int)),.det (.int .i64 ((i+1:Nat):Int))] [0,1] [0,1] (fun L=>[JV a,.slice (some ⟨b,off,none⟩) l.length c,.slice (some ⟨b0,off0,none⟩) l.length c0,.int .i64 ((j:Nat):Int),L0.p 0,u5,u6,u7,L0.p 1,.int .i64 ((i:Nat):Int),L7.p 3,.slice (some ⟨b,off,none⟩) l.length c,.int .i64 l.length,.int .i64 ((i+1:Nat):Int),.bool true,.int .i64 ((i:Nat):Int),.pointer (some ⟨b,off+i*13,none⟩),GV (gp x.1),.slice (some ⟨b0,off0,none⟩) l.length c0,.int .i64 ((i:Nat):Int),.pointer (some ⟨b0,off0+i*4,none⟩),RV x.2,.int .i64 ((j:Nat):Int),.int .u64 1,.bool true,JV y,GV (gp x.1),JV (jplus y x.1),.int .i64 ((i+1:Nat):Int),u29]) (fun L=>[(L0.b 0,JC (jplus y x.1)),(L0.b 1,JC ⟨0,0,0⟩),(L7.b 3,GC (gp x.1))]) hp10 ⟨
    oJ .i64 .i64 ((i:Nat):Int) 1 (h:=fun w=>add1N _ i (by omega) w),oM,
    trivial⟩ (fun L10 w11 hp11=>?_)
   exact ⟨L-1,by omega,i+1,(jplus y x.1),u5,u6,u7,.int .i64 ((i:Nat):Int),L7.p 3,.bool true,.int .i64 ((i:Nat):Int),.pointer (some ⟨b,off+i*13,none⟩),GV (gp x.1),.slice (some ⟨b0,off0,none⟩) l.length c0,.int .i64 ((i:Nat):Int),.pointer (some ⟨b0,off0+i*4,none⟩),RV x.2,.int .i64 ((j:Nat):Int),.int .u64 1,.bool true,JV y,GV (gp x.1),JV (jplus y x.1),.int .i64 ((i+1:Nat):Int),u29,rfl,by omega,bits_yes hy hb1,Heap.sub hp11 (List.sublist_append_left [_,_] [_])⟩
 obtain rfl:i=l.length:=by omega
 rw [List.drop_length] at hy
 refine sgs [.det (.bool false)] [0] [0] (fun L=>[JV a,.slice p l.length c,.slice q l.length c0,.int .i64 ((j:Nat):Int),L0.p 0,u5,u6,u7,L0.p 1,u9,u10,.slice p l.length c,.int .i64 l.length,.int .i64 ((l.length:Nat):Int),.bool false,u15,u16,u17,u18,u19,u20,u21,u22,u23,u24,u25,u26,u27,u28,u29]) (fun L=>[(L0.b 0,JC y),(L0.b 1,JC ⟨0,0,0⟩)]) hJ ⟨
  oJ .i64 .i64 ((l.length:Nat):Int) l.length (h:=fun w=>(lssI _ _ _ w).trans (by rw [decide_eq_false (by omega)])),
  trivial⟩ (fun L11 w12 hp12=>?_)
 refine wp_seq_k (fun K18 k18=>?_)
 refine cF ?_
 refine wp_exit ?_
 refine then_exit ?_
 refine then_exit ?_
 refine k4 _ _ _ ?_
 refine exit_in ?_
 refine k2 _ _ ?_
 refine sgs [.det (JV y),.store (.base 1) 0 (JC y) (JC y)] [0,1] [0,1] (fun L=>[JV a,.slice p l.length c,.slice q l.length c0,.int .i64 ((j:Nat):Int),L0.p 0,u5,u6,u7,L0.p 1,u9,u10,.slice p l.length c,.int .i64 l.length,.int .i64 ((l.length:Nat):Int),.bool false,u15,u16,u17,u18,u19,u20,u21,u22,u23,u24,u25,u26,u27,u28,JV y]) (fun L=>[(L0.b 0,JC y),(L0.b 1,JC y)]) hp12 ⟨
  oL 0 0 rJ,oT rJ,
  trivial⟩ (fun L12 w13 hp13=>?_)
 refine wp_ret ?_
 refine bodyPost_ret (v:=JV y) ?_ rfl ?_
 ·exact rc rJ rfl (by kernel_rfl) (hp13.bound 1 rfl).2
 ·exact ⟨congrArg (fun z=>Ending.returned (JV z)) hy,hp13.bel⟩
def totI (p q:Option Addr) (l:List (Pt F × Nat)) (c c0:Nat) (w:World) (b4:Nat):Act→World→Prop:=fun a' w'=>∃ (L b5:Nat) (y:Jc F) (u2 u3 u7 u8 u9 u10 u11 u12 u13 u14 u15 u16 u17 u18:Value),
 a'={ tmps:=#[.slice p l.length c,.slice q l.length c0,u2,u3,.pointer (some ⟨b4,0,none⟩),.pointer (some ⟨b5,0,none⟩),.int .i64 ((L:Nat):Int),u7,u8,u9,u10,u11,u12,u13,u14,u15,u16,u17,u18],defers:=[] }∧L≤256∧jall l L y=jall l 256 ⟨0,0,0⟩∧Heap w.heap.size w w' [(b4,JC ⟨0,0,0⟩),(b5,JC y)]
theorem g1total {G:World→Prop} (K:FpK G) (p q:Option Addr) (l:List (Pt F × Nat)) (c c0:Nat) (w:World) (hg:G w) (hl:l.length≤1000) (hA:AtL w p q l) (hk:∀ x∈l,x.2<2^256):Calls Tryz.prog 121 #[.slice p l.length c,.slice q l.length c0] w (Ret (JV (jall l 256 ⟨0,0,0⟩)) w):=by
 have hp0:=Heap.start w
 go_enter Tryz.func121,Tryz.ntmps121
 refine sgs [.alloc (JC ⟨0,0,0⟩)] [0] [0] (fun L=>[.slice p l.length c,.slice q l.length c0,undef,undef,L.p 0]++U 14) (fun L=>[(L.b 0,JC ⟨0,0,0⟩)]) hp0 ⟨
  oZ rJ,
  trivial⟩ (fun L0 w1 hp1=>?_)
 refine wp_scope_goto 0 (totI p q l c c0 w (L0.b 0)) (fun a' _=>slot 6 a') rfl ?_ ?_
 ·skip
  rintro a' W ⟨L,b5,y,u2,u3,u7,u8,u9,u10,u11,u12,u13,u14,u15,u16,u17,u18,rfl,hL,hy,hJ⟩
  by_cases hL0:L=0
  ·skip
   subst hL0
   refine wp_seq_k (fun K1 k1=>?_)
   refine sgs [.det (.int .i64 ((0:Nat):Int)),.det (.bool false)] [0,1] [0,1] (fun L=>[.slice p l.length c,.slice q l.length c0,u2,u3,L0.p 0,pt b5 0,.int .i64 ((0:Nat):Int),u7,.int .i64 ((0:Nat):Int),.bool false,u10,u11,u12,u13,u14,u15,u16,u17,u18]) (fun L=>[(L0.b 0,JC ⟨0,0,0⟩),(b5,JC y)]) hJ ⟨
    oM,oJ .i64 .i64 ((0:Nat):Int) 0 (h:=fun w=>(gtrI _ _ _ w).trans (by rw [decide_eq_false (by omega)])),
    trivial⟩ (fun L1 w2 hp2=>?_)
   refine cfk (k1 _ _ ?_)
   refine sgs [.det (JV y),.store (.base 0) 0 (JC y) (JC y)] [0,1] [0,1] (fun L=>[.slice p l.length c,.slice q l.length c0,u2,u3,L0.p 0,pt b5 0,.int .i64 ((0:Nat):Int),u7,.int .i64 ((0:Nat):Int),.bool false,u10,u11,u12,u13,u14,u15,u16,u17,JV y]) (fun L=>[(L0.b 0,JC y),(b5,JC y)]) hp2 ⟨
    oL 1 0 rJ,oT rJ,
    trivial⟩ (fun L2 w3 hp3=>?_)
   refine wp_ret ?_
   refine bodyPost_ret (v:=JV y) ?_ rfl ?_
   ·exact rc rJ rfl (by kernel_rfl) (hp3.bound 0 rfl).2
   ·exact ⟨congrArg (fun z=>Ending.returned (JV z)) hy,hp3.bel⟩
  ·skip
   obtain ⟨m,rfl⟩:∃ m,L=m+1:=⟨L-1,by omega⟩
   refine wp_seq_k (fun K4 k4=>?_)
   refine sgs [.det (.int .i64 ((m+1:Nat):Int)),.det (.bool true)] [0,1] [0,1] (fun L=>[.slice p l.length c,.slice q l.length c0,u2,u3,L0.p 0,pt b5 0,.int .i64 ((m+1:Nat):Int),u7,.int .i64 ((m+1:Nat):Int),.bool true,u10,u11,u12,u13,u14,u15,u16,u17,u18]) (fun L=>[(L0.b 0,JC ⟨0,0,0⟩),(b5,JC y)]) hJ ⟨
    oM,oJ .i64 .i64 ((m+1:Nat):Int) 0 (h:=fun w=>(gtrI _ _ _ w).trans (by rw [decide_eq_true (by omega)])),
    trivial⟩ (fun L3 w4 hp4=>?_)
   refine cT ?_
   refine sgs [.det (.int .i64 ((m+1:Nat):Int)),.det (.int .i64 ((m:Nat):Int)),.det (.int .i64 ((m:Nat):Int))] [0,1,2] [0,1,3] (fun L=>[.slice p l.length c,.slice q l.length c0,u2,u3,L0.p 0,pt b5 0,.int .i64 ((m:Nat):Int),u7,.int .i64 ((m+1:Nat):Int),.bool true,.int .i64 ((m+1:Nat):Int),.int .i64 ((m:Nat):Int),u12,u13,u14,u15,u16,u17,u18]) (fun L=>[(L0.b 0,JC ⟨0,0,0⟩),(b5,JC y)]) hp4 ⟨
    oM,oJ .i64 .i64 ((m+1:Nat):Int) 1 (h:=fun w=>sub1 _ m (by omega) w),oA,
    trivial⟩ (fun L4 w5 hp5=>?_)
   refine sgs [.det (JV y),.det (JV (jtwice y)),.det (.slice p l.length c),.det (.slice q l.length c0),.det (.int .i64 ((m:Nat):Int)),.det (JV (jbits (jtwice y) m l)),.store (.base 1) 0 (JC (jbits (jtwice y) m l)) (JC (jbits (jtwice y) m l))] (nn 7) [0,1,0,0,0,31,63] (fun L=>[.slice p l.length c,.slice q l.length c0,u2,u3,L0.p 0,pt b5 0,.int .i64 ((m:Nat):Int),u7,.int .i64 ((m+1:Nat):Int),.bool true,.int .i64 ((m+1:Nat):Int),.int .i64 ((m:Nat):Int),JV y,JV (jtwice y),.slice p l.length c,.slice q l.length c0,.int .i64 ((m:Nat):Int),JV (jbits (jtwice y) m l),u18]) (fun L=>[(L0.b 0,JC ⟨0,0,0⟩),(b5,JC (jbits (jtwice y) m l))]) hp5 ⟨
    oL 1 0 rJ,oC K.stay hg (g1twice K y),oM,oM,oM,oH (v:=JV (jbits (jtwice y) m l)) (vs:=#[JV (jtwice y),.slice p l.length c,.slice q l.length c0,.int .i64 ((m:Nat):Int)]) (fun w hb _=>g1withBits K (jtwice y) p q l c c0 m w (K.stay hg hb) hl (by omega) (hA.up hb) hk),
    oT rJ,
    trivial⟩ (fun L5 w6 hp6=>?_)
   refine wp_goto ?_
   exact ⟨rfl,⟨m,b5,jbits (jtwice y) m l,u2,u3,u7,.int .i64 ((m+1:Nat):Int),.bool true,.int .i64 ((m+1:Nat):Int),.int .i64 ((m:Nat):Int),JV y,JV (jtwice y),.slice p l.length c,.slice q l.length c0,.int .i64 ((m:Nat):Int),JV (jbits (jtwice y) m l),u18,rfl,by omega,hy,hp6⟩,by simp [slot,intOf]⟩
 ·skip
  intro hr
  refine sgs [.det (JV ⟨0,0,0⟩),.alloc (JC ⟨0,0,0⟩),.store (.new 1) 0 (JC ⟨0,0,0⟩) (JC ⟨0,0,0⟩)] [0,1,2] [0,0,3] (fun L=>[.slice p l.length c,.slice q l.length c0,undef,undef,L0.p 0,L.p 1,undef,JV ⟨0,0,0⟩]++U 11) (fun L=>[(L0.b 0,JC ⟨0,0,0⟩),(L.b 1,JC ⟨0,0,0⟩)]) hp1 ⟨
   oD buildJn,oZ rJ,oT rJ,
   trivial⟩ (fun L6 w7 hp7=>?_)
  refine sgs [.det (.int .i64 256)] [0] [0] (fun L=>[.slice p l.length c,.slice q l.length c0,undef,undef,L0.p 0,L6.p 1,.int .i64 256,JV ⟨0,0,0⟩]++U 11) (fun L=>[(L0.b 0,JC ⟨0,0,0⟩),(L6.b 1,JC ⟨0,0,0⟩)]) hp7 ⟨
   oA,
   trivial⟩ (fun L7 w8 hp8=>?_)
  refine wp_seq_k (fun K10 k10=>?_)
  refine wp_label ?_
  exact k10 _ _ (hr _ _ ⟨256,(L6.b 1),⟨0,0,0⟩,undef,undef,JV ⟨0,0,0⟩,undef,undef,undef,undef,undef,undef,undef,undef,undef,undef,undef,rfl,Nat.le_refl _,rfl,hp8⟩)
theorem totalOne {G : World → Prop} (K : FpK G) (P : Pt F) (k : Nat) (u v : Value) (w : World) (hg : G w) (hk : k < 2 ^ 256) (hu : isRow1 (GC (gp P)) u w) (hv : isRow1 (RC k) v w) : Calls Tryz.prog 121 #[u, v] w (Ret (JV (jall [(P, k)] 256 ⟨0, 0, 0⟩)) w) := by
  obtain ⟨b, rfl, hb⟩ := hu
  obtain ⟨d, rfl, hd⟩ := hv
  refine g1total K (some ⟨b, 0, none⟩) (some ⟨d, 0, none⟩) [(P, k)] 1 1 w hg (by show (1 : Nat) ≤ 1000; decide) (fun _ => ⟨⟨b, 0, rfl, fun j x hx => ?_⟩, d, 0, rfl, fun j x hx => ?_⟩) (fun x hx => ?_)
  · cases j with
    | zero => obtain rfl : (P, k) = x := by simpa using hx
              simpa using hb
    | succ j => simp at hx
  · cases j with
    | zero => obtain rfl : (P, k) = x := by simpa using hx
              simpa using hd
    | succ j => simp at hx
  · obtain rfl : x = (P, k) := by simpa using hx
    exact hk
def jmul (P:Pt F) (k:Nat):Jc F:=jall [(P,k)] 256 ⟨0,0,0⟩
theorem jmul_rep {P:Pt F} (hP:On (4:F) P) {k:Nat} (hk:k<2^256):JRep (mul finv k P) (jmul P k):=by
 have h:=jall_sum (iv:=finv) crv1 [(P,k)] (fun x hx=>by rw [List.mem_singleton.1 hx];exact hP) 256 (fun x hx=>by rw [List.mem_singleton.1 hx];exact hk)
 rw [psum_one] at h
 exact h
theorem g1times {G:World→Prop} (K:FpK G) (P:Pt F) (k:Nat) (w:World) (hg:G w) (hk:k<2^256):Calls Tryz.prog 92 #[GV (gp P),RV k] w (Ret (JV (jmul P k)) w):=by
 have hp0:=Heap.start w
 go_enter Tryz.func92,Tryz.ntmps92
 refine sgs [.alloc (GC (gp P)),.alloc (RC k),.alloc (JC ⟨0,0,0⟩)] [0,1,2] [0,0,0] (fun L=>[GV (gp P),RV k,L.p 0,L.p 1,L.p 2]++U 5) (fun L=>[(L.b 0,GC (gp P)),(L.b 1,RC k),(L.b 2,JC ⟨0,0,0⟩)]) hp0 ⟨
  oB,oB,oZ rJ,
  trivial⟩ (fun L0 w1 hp1=>?_)
 refine sgsD [.det (GV (gp P)),.any (isRow1 (GC (gp P))),.det (RV k),.any (isRow1 (RC k)),.det (JV (jmul P k)),.store (.base 2) 0 (JC (jmul P k)) (JC (jmul P k))] (nn 6) [0,1,0,4,15,31] (fun L d=>D d 0 4++([L0.p 2]++D d 5 5)) (fun L=>[(L0.b 0,GC (gp P)),(L0.b 1,RC k),(L0.b 2,JC (jmul P k))]) hp1 ⟨
  oL 0 0 rG,oS2 Tryz.underlying139 rG,oL 1 0 rR,oS2 Tryz.underlying22 rR,oCS (fun L=>#[L.v 1,L.v 3]) (fun L w hs=>totalOne K P k _ _ w (K.stay hg hs.bel) hk (hs.any 1 _ rfl rfl) (hs.any 3 _ rfl rfl)),
  oT rJ,
  trivial⟩ (fun L1 _ w2 hp2=>?_)
 refine wp_ret ?_
 refine bodyPost_ret (v:=JV (jmul P k)) ?_ rfl ?_
 ·exact rc rJ rfl (by kernel_rfl) (hp2.bound 2 rfl).2
 ·exact ⟨rfl,hp2.bel⟩
end Go.Proofs.YthnfgmhehfombaaGreatDoor.fpn
/- Package g1 and the reference: On, In, multiples; scalars. -/
namespace Go.Proofs.YthnfgmhehfombaaGreatDoor.fpn
open Go.RowKit Pl EC
theorem fpMayF {G:World→Prop} (K:FpK G) (a:F) (w:World) (hg:G w):Calls Tryz.prog 116 #[FV a] w (Ret (.bool true) w):=by
 have h:=K.may (lb a.val) w hg (lb_rg _ _)
 rw [decide_eq_true (lt_RI a)] at h
 exact h
theorem g1OnA {G:World→Prop} (K:FpK G) (x y:F) (w:World) (hg:G w):Calls Tryz.prog 90 #[GV ⟨x,y,false⟩] w (Ret (.bool (decide (y*y=x*x*x+4))) w):=by
 obtain ⟨n1,o1⟩:=nm (y*y)
 obtain ⟨n2,o2⟩:=nm (x*x)
 obtain ⟨n3,o3⟩:=nm (n2*x)
 obtain ⟨n4,o4⟩:=nm (n3+4)
 have fin:Ending.returned (.bool (decide (n1=n4)))=Ending.returned (.bool (decide (y*y=x*x*x+4))):=by subst_vars;exact rfl
 have hp0:=Heap.start w
 go_enter Tryz.func90,Tryz.ntmps90
 refine sgsD [.alloc (GC ⟨x,y,false⟩),.det (.bool false)] [0,1] [0,0] (fun L d=>[d 0,L.p 0]++D d 2 28) (fun L=>[(L.b 0,GC ⟨x,y,false⟩)]) hp0 ⟨
  oB,oA,
  trivial⟩ (fun L0 d0 w1 hp1=>?_)
 refine wp_seq_k (fun K2 k2=>?_)
 refine sgs [.det (pt (L0.b 0) 12),.det (.bool false)] [0,1] [0,1] (fun L=>[d0 0,L0.p 0,d0 2,pt (L0.b 0) 12,.bool false]++D d0 5 25) (fun L=>[(L0.b 0,GC ⟨x,y,false⟩)]) hp1 ⟨
  oF fG2,oL1 0 12 oneB,
  trivial⟩ (fun L1 w2 hp2=>?_)
 refine cfk (k2 _ _ ?_)
 refine wp_seq_k (fun K4 k4=>?_)
 refine sgsD [.det (L0.p 0),.det (FV x),.det (.bool true),.det (.bool false),.det (.bool false),.det (pt (L0.b 0) 6),.det (FV y),.det (.bool true),.det (.bool false),.det (.bool false)] (nn 10) [0,1,3,7,15,31,63,127,255,511] (fun L d=>[d 0,L0.p 0]++(D d 2 15++([.bool false]++D d 18 12))) (fun L=>[(L0.b 0,GC ⟨x,y,false⟩)]) hp2 ⟨
  oF fG0,oL 0 0 rF,oC K.stay hg (fpMayF K x),oN,oM,oF fG1,oL 0 6 rF,oC K.stay hg (fpMayF K y),oN,oP,
  trivial⟩ (fun L2 _ w3 hp3=>?_)
 refine cfk (k4 _ _ ?_)
 refine sdrD [.det (pt (L0.b 0) 6),.det (FV y),.det (FV n1),.det (L0.p 0),.det (FV x),.det (FV n2),.det (L0.p 0),.det (FV x),.det (FV n3),.det (FV 4),.det (FV n4),.det (.bool (decide (n1=n4))),.det (.bool (decide (n1=n4)))] (nn 13) [0,1,3,0,8,31,0,64,255,511,1023,2047,4095] (fun L d=>D d 0 2++([.bool (decide (n1=n4))]++D d 3 27)) (fun L=>[(L0.b 0,GC ⟨x,y,false⟩)]) hp3 ⟨
  oF fG1,oL 0 6 rF,oC K.stay hg (nF o1 (g1square K y)),oF fG0,oL 0 0 rF,oC K.stay hg (nF o2 (g1square K x)),oF fG0,oL 0 0 rF,oC K.stay hg (nF o3 (K.mul n2 x)),
  oC K.stay hg K.of4,oC K.stay hg (nF o4 (K.add n3 4)),oE (a:=n1) (b:=n4) qF rfl,oA,
  trivial⟩ (fun L3 _ w4 hp4=>?_)
 refine wp_ret ?_
 refine bodyPost_ret (v:=.bool (decide (n1=n4))) ?_ rfl ?_
 ·exact res_t rfl (by kernel_rfl) _
 ·exact ⟨fin,hp4.bel⟩
theorem g1OnI {G:World→Prop} (K:FpK G) (P:Pt F) (w:World) (hg:G w):Calls Tryz.prog 90 #[GV ⟨0,0,true⟩] w (Ret (.bool true) w):=by
 have hp0:=Heap.start w
 go_enter Tryz.func90,Tryz.ntmps90
 refine sgsD [.alloc (GC ⟨0,0,true⟩),.det (.bool false)] [0,1] [0,0] (fun L d=>[d 0,L.p 0]++D d 2 28) (fun L=>[(L.b 0,GC ⟨0,0,true⟩)]) hp0 ⟨
  oB,oA,
  trivial⟩ (fun L0 d0 w1 hp1=>?_)
 refine wp_seq_k (fun K2 k2=>?_)
 refine sgs [.det (pt (L0.b 0) 12),.det (.bool true)] [0,1] [0,1] (fun L=>[d0 0,L0.p 0,d0 2,pt (L0.b 0) 12,.bool true]++D d0 5 25) (fun L=>[(L0.b 0,GC ⟨0,0,true⟩)]) hp1 ⟨
  oF fG2,oL1 0 12 oneB,
  trivial⟩ (fun L1 w2 hp2=>?_)
 refine cT ?_
 refine sgsD [.det (GV ⟨0,0,true⟩),.det (GV ⟨0,0,true⟩),.det (.bool true),.det (.bool true)] [0,1,2,3] [0,0,3,7] (fun L d=>D d 0 2++([.bool true]++D d 3 27)) (fun L=>[(L0.b 0,GC ⟨0,0,true⟩)]) hp2 ⟨
  oL 0 0 rG,oD (buildGi true),oE (a:=⟨0,0,true⟩) (b:=⟨0,0,true⟩) qG (yes rfl),oA,
  trivial⟩ (fun L2 _ w3 hp3=>?_)
 refine wp_ret ?_
 refine bodyPost_ret (v:=.bool true) ?_ rfl ?_
 ·exact res_t rfl (by kernel_rfl) _
 ·exact ⟨rfl,hp3.bel⟩
theorem g1On {G:World→Prop} (K:FpK G) (P:Pt F) (w:World) (hg:G w) (hP:On (4:F) P):Calls Tryz.prog 90 #[GV (gp P)] w (Ret (.bool true) w):=by
 cases P with
 | inf=>exact g1OnI K .inf w hg
 | aff x y =>
  have h:=g1OnA K x y w hg
  rw [decide_eq_true (show y*y=x*x*x+4 from hP)] at h
  exact h
theorem g1InJ {G:World→Prop} (K:FpK G) (P:Pt F) (w:World) (hg:G w) (hP:On (4:F) P):Calls Tryz.prog 61 #[GV (gp P)] w (Ret (.bool (decide ((jmul P ordR).z=0))) w):=by
 have hp0:=Heap.start w
 go_enter Tryz.func61,Tryz.ntmps61
 refine sgsD [.alloc (GC (gp P)),.det (.bool false)] [0,1] [0,0] (fun L d=>[d 0,L.p 0]++D d 2 11) (fun L=>[(L.b 0,GC (gp P))]) hp0 ⟨
  oB,oA,
  trivial⟩ (fun L0 _ w1 hp1=>?_)
 refine sdrD [.det (GV (gp P)),.det (.bool true),.det (.bool true),.det (GV (gp P)),.any (isFour (RC ordR)),.detV 4 arrP,.det (RV ordR),.det (JV (jmul P ordR)),.det (.bool (decide ((jmul P ordR).z=0))),.det (.bool (decide ((jmul P ordR).z=0))),.det (.bool (decide ((jmul P ordR).z=0)))] (nn 11) [0,1,3,7,7,23,55,127,255,511,1023] (fun L d=>D d 0 2++([.bool (decide ((jmul P ordR).z=0))]++D d 3 10)) (fun L=>[(L0.b 0,GC (gp P))]) hp1 ⟨
  oL 0 0 rG,oH (v:=.bool true) (vs:=#[GV (gp P)]) (fun w hb _=>g1On K P w (K.stay hg hb) hP),oM,oL 0 0 rG,oY (fun L=>#[]) isFour_stay (fun _ w _=>frR_new w),
  oAP 4 Tryz.underlying27,oLP 4 rR,oH (v:=JV (jmul P ordR)) (vs:=#[GV (gp P),RV ordR]) (fun w hb _=>g1times K P ordR w (K.stay hg hb) ordR_256),
  oC K.stay hg (g1isInf K (jmul P ordR)),oP,oA,
  trivial⟩ (fun L1 _ w2 hp2=>?_)
 refine wp_ret ?_
 refine bodyPost_ret (v:=.bool (decide ((jmul P ordR).z=0))) ?_ rfl ?_
 ·exact res_t rfl (by kernel_rfl) _
 ·exact ⟨rfl,hp2.bel⟩
theorem isInf_mul {P:Pt F} (hP:On (4:F) P) {k:Nat} (hk:k<2^256):decide ((jmul P k).z=0)=decide (mul finv k P=.inf):=by
 have h:JRep (mul finv k P) (jmul P k):=jmul_rep hP hk
 generalize jmul P k=a at h
 generalize mul finv k P=Q at h
 exact decide_eq_decide.2 (JRep.isInf h)
theorem g1In {G:World→Prop} (K:FpK G) (P:Pt F) (w:World) (hg:G w) (hP:On (4:F) P):Calls Tryz.prog 61 #[GV (gp P)] w (Ret (.bool (decide (mul finv ordR P=.inf))) w):=by
 have h:=g1InJ K P w hg hP
 rw [isInf_mul hP ordR_256] at h
 exact h
theorem ref5Plus1J (R:RefK) (P Q:Pt F) (w:World):Calls Tryz.prog 25 #[GV (gp P),GV (gp Q)] w (Ret (GV (gp (pto (radd12 (pof P) (pof Q))))) w):=by
 have hp0:=Heap.start w
 go_enter Tryz.func25,Tryz.ntmps25
 refine sgsD [.alloc (GC (gp P)),.alloc (GC (gp Q)),.alloc (GC ⟨0,0,false⟩)] [0,1,2] [0,0,0] (fun L d=>D d 0 2++([L.p 0,L.p 1,L.p 2]++U 6)) (fun L=>[(L.b 0,GC (gp P)),(L.b 1,GC (gp Q)),(L.b 2,GC ⟨0,0,false⟩)]) hp0 ⟨
  oB,oB,oZ rG,
  trivial⟩ (fun L0 _ w1 hp1=>?_)
 refine sdrD [.det (GV (gp P)),.det (PJV (sp (pof P))),.det (GV (gp Q)),.det (PJV (sp (pof Q))),.det (PJV (sp (radd12 (pof P) (pof Q)))),.det (GV (gp (pto (radd12 (pof P) (pof Q))))),.store (.base 2) 0 (GC (gp (pto (radd12 (pof P) (pof Q))))) (GC (gp (pto (radd12 (pof P) (pof Q)))))] (nn 7) [0,1,0,7,15,31,63] (fun L d=>D d 0 4++([L0.p 2]++D d 5 6)) (fun L=>[(L0.b 0,GC (gp P)),(L0.b 1,GC (gp Q)),(L0.b 2,GC (gp (pto (radd12 (pof P) (pof Q)))))]) hp1 ⟨
  oL 0 0 rG,oR (ref5of1 R P),oL 1 0 rG,oR (ref5of1 R Q),oR (ref5add R (pof P) (pof Q)),oR (ref5to1 R (radd12 (pof P) (pof Q))),oT rG,
  trivial⟩ (fun L1 _ w2 hp2=>?_)
 refine wp_ret ?_
 refine bodyPost_ret (v:=GV (gp (pto (radd12 (pof P) (pof Q))))) ?_ rfl ?_
 ·exact rc rG rfl (by kernel_rfl) (hp2.bound 2 rfl).2
 ·exact ⟨rfl,hp2.bel⟩
theorem ref5Plus1 (R:RefK) (P Q:Pt F) (w:World) (hP:On (4:F) P) (hQ:On (4:F) Q):Calls Tryz.prog 25 #[GV (gp P),GV (gp Q)] w (Ret (GV (gp (add finv P Q))) w):=by
 have h:=ref5Plus1J R P Q w
 rw [pto_rep (rep_add hP hQ (rep_of P) (rep_of Q))] at h
 exact h
def rmul (P:Pt F) (k:Nat):F × F × F:=lad (4+4+4) (pof P).1 (pof P).2.1 (pof P).2.2 (64*4) k
theorem rmul_rep {P:Pt F} (hP:On (4:F) P) {k:Nat} (hk:k<2^256):Rep3 (mul finv k P) (rmul P k):=lad_rep crv1 hP (rep_of P) (64*4) k hk
theorem ref5Times1J (R:RefK) (P:Pt F) (k:Nat) (w:World) (hk:k<2^256):Calls Tryz.prog 29 #[GV (gp P),RV k] w (Ret (GV (gp (pto (rmul P k)))) w):=by
 have hp0:=Heap.start w
 go_enter Tryz.func29,Tryz.ntmps29
 refine sgs [.alloc (GC (gp P)),.alloc (RC k),.alloc (GC ⟨0,0,false⟩)] [0,1,2] [0,0,0] (fun L=>[GV (gp P),RV k,L.p 0,L.p 1,L.p 2]++U 5) (fun L=>[(L.b 0,GC (gp P)),(L.b 1,RC k),(L.b 2,GC ⟨0,0,false⟩)]) hp0 ⟨
  oB,oB,oZ rG,
  trivial⟩ (fun L0 w1 hp1=>?_)
 refine sdrD [.det (GV (gp P)),.det (PJV (sp (pof P))),.det (.slice (some ⟨(L0.b 1),0,none⟩) 4 4),.det (PJV (sp (rmul P k))),.det (GV (gp (pto (rmul P k)))),.store (.base 2) 0 (GC (gp (pto (rmul P k)))) (GC (gp (pto (rmul P k))))] (nn 6) [0,1,0,7,15,31] (fun L d=>D d 0 4++([L0.p 2]++D d 5 5)) (fun L=>[(L0.b 0,GC (gp P)),(L0.b 1,RC k),(L0.b 2,GC (gp (pto (rmul P k))))]) hp1 ⟨
  oL 0 0 rG,oR (ref5of1 R P),oSA (sz:=1) Tryz.underlying27 (by kernel_rfl) (by decide),oCS (fun L=>#[PJV (sp (pof P)),.slice (some ⟨(L0.b 1),0,none⟩) 4 4,.bool true]) (fun L w hs=>ref5times R (pof P) _ 4 4 (lb k) k w (by decide) (atR (seen_at (k:=1) hs rfl)) (lb_rg _ _) (lbR hk)),
  oR (ref5to1 R (rmul P k)),oT rG,
  trivial⟩ (fun L1 _ w2 hp2=>?_)
 refine wp_ret ?_
 refine bodyPost_ret (v:=GV (gp (pto (rmul P k)))) ?_ rfl ?_
 ·exact rc rG rfl (by kernel_rfl) (hp2.bound 2 rfl).2
 ·exact ⟨rfl,hp2.bel⟩
theorem ref5Times1 (R:RefK) (P:Pt F) (k:Nat) (w:World) (hP:On (4:F) P) (hk:k<2^256):Calls Tryz.prog 29 #[GV (gp P),RV k] w (Ret (GV (gp (mul finv k P))) w):=by
 have h:=ref5Times1J R P k w hk
 rw [pto_rep (rmul_rep hP hk)] at h
 exact h
theorem ref5timesR (R:RefK) (P:Pt F) (v:Value) (w:World) (hv:isFour (RC ordR) v w):Calls Tryz.prog 48 #[PJV (sp (pof P)),v,.bool true] w (Ret (PJV (sp (rmul P ordR))) w):=by
 obtain ⟨b,off,c,rfl,hc⟩:=hv
 exact ref5times R (pof P) _ 4 c (lb ordR) ordR w (by decide) (atR' hc) (lb_rg _ _) (lbR ordR_256)
theorem ref5In1J (R:RefK) (P:Pt F) (w:World):Calls Tryz.prog 23 #[GV (gp P)] w (Ret (.bool (gp (pto (rmul P ordR))).i) w):=by
 have hp0:=Heap.start w
 go_enter Tryz.func23,Tryz.ntmps23
 refine sgsD [.alloc (GC (gp P)),.det (.bool false)] [0,1] [0,0] (fun L d=>[d 0,L.p 0]++D d 2 7) (fun L=>[(L.b 0,GC (gp P))]) hp0 ⟨
  oB,oA,
  trivial⟩ (fun L0 _ w1 hp1=>?_)
 refine sgsD [.det (GV (gp P)),.det (PJV (sp (pof P))),.any (isFour (RC ordR)),.det (PJV (sp (rmul P ordR))),.det (GV (gp (pto (rmul P ordR)))),.det (.bool ((gp (pto (rmul P ordR))).i)),.det (.bool ((gp (pto (rmul P ordR))).i))] (nn 7) [0,1,3,7,15,31,63] (fun L d=>D d 0 2++([.bool ((gp (pto (rmul P ordR))).i)]++D d 3 6)) (fun L=>[(L0.b 0,GC (gp P))]) hp1 ⟨
  oL 0 0 rG,oR (ref5of1 R P),oY (fun L=>#[]) isFour_stay (fun _ w _=>refR_new w),oCS (fun L=>#[PJV (sp (pof P)),L.v 2,.bool true]) (fun L w hs=>ref5timesR R P _ w (hs.any 2 _ rfl rfl)),
  oR (ref5to1 R (rmul P ordR)),oFv (n:=0) (cs:=GC (gp (pto (rmul P ordR)))) fG2 fG2a,oA,
  trivial⟩ (fun L1 _ w2 hp2=>?_)
 refine wp_ret ?_
 refine bodyPost_ret (v:=.bool ((gp (pto (rmul P ordR))).i)) ?_ rfl ?_
 ·exact res_t rfl (by kernel_rfl) _
 ·exact ⟨rfl,hp2.bel⟩
theorem gp_i (P:Pt F):(gp P).i=decide (P=.inf):=by
 cases P with
 | inf=>exact (decide_eq_true rfl).symm
 | aff x y=>exact (decide_eq_false (fun h=>by cases h)).symm
theorem rmul_to {P:Pt F} (hP:On (4:F) P) {k:Nat} (hk:k<2^256):(gp (pto (rmul P k))).i=decide (mul finv k P=.inf):=by
 have h:Rep3 (mul finv k P) (rmul P k):=rmul_rep hP hk
 rw [pto_rep h,gp_i]
theorem ref5In1 (R:RefK) (P:Pt F) (w:World) (hP:On (4:F) P):Calls Tryz.prog 23 #[GV (gp P)] w (Ret (.bool (decide (mul finv ordR P=.inf))) w):=by
 have h:=ref5In1J R P w
 rw [rmul_to hP ordR_256] at h
 exact h
theorem ref5Min0 (R:RefK) (x y:F) (w:World):Calls Tryz.prog 24 #[GV ⟨x,y,true⟩] w (Ret (GV ⟨x,y,true⟩) w):=by
 have hp0:=Heap.start w
 go_enter Tryz.func24,Tryz.ntmps24
 refine sgsD [.alloc (GC ⟨x,y,true⟩),.alloc (GC ⟨0,0,false⟩)] [0,1] [0,0] (fun L d=>[d 0,L.p 0,L.p 1]++U 8) (fun L=>[(L.b 0,GC ⟨x,y,true⟩),(L.b 1,GC ⟨0,0,false⟩)]) hp0 ⟨
  oB,oZ rG,
  trivial⟩ (fun L0 _ w1 hp1=>?_)
 refine wp_seq_k (fun K2 k2=>?_)
 refine sgsD [.det (pt (L0.b 0) 12),.det (.bool true),.det (.bool false)] [0,1,2] [0,1,3] (fun L d=>[d 0,L0.p 0,L0.p 1]++(D d 3 2++([.bool false]++U 5))) (fun L=>[(L0.b 0,GC ⟨x,y,true⟩),(L0.b 1,GC ⟨0,0,false⟩)]) hp1 ⟨
  oF fG2,oL1 0 12 oneB,oN,
  trivial⟩ (fun L1 _ w2 hp2=>?_)
 refine cfk (k2 _ _ ?_)
 refine sgsD [.det (GV ⟨x,y,true⟩),.store (.base 1) 0 (GC ⟨x,y,true⟩) (GC ⟨x,y,true⟩)] [0,1] [0,1] (fun L d=>D d 0 2++([L0.p 1]++D d 3 8)) (fun L=>[(L0.b 0,GC ⟨x,y,true⟩),(L0.b 1,GC ⟨x,y,true⟩)]) hp2 ⟨
  oL 0 0 rG,oT rG,
  trivial⟩ (fun L2 _ w3 hp3=>?_)
 refine wp_ret ?_
 refine bodyPost_ret (v:=GV ⟨x,y,true⟩) ?_ rfl ?_
 ·exact rc rG rfl (by kernel_rfl) (hp3.bound 1 rfl).2
 ·exact ⟨rfl,hp3.bel⟩
theorem ref5Min1 (R:RefK) (x y:F) (w:World):Calls Tryz.prog 24 #[GV ⟨x,y,false⟩] w (Ret (GV ⟨x,-y,false⟩) w):=by
 obtain ⟨n1,o1⟩:=nm (-y)
 have fin:Ending.returned (GV ⟨x,n1,false⟩)=Ending.returned (GV ⟨x,-y,false⟩):=by subst_vars;exact rfl
 have hp0:=Heap.start w
 go_enter Tryz.func24,Tryz.ntmps24
 refine sgsD [.alloc (GC ⟨x,y,false⟩),.alloc (GC ⟨0,0,false⟩)] [0,1] [0,0] (fun L d=>[d 0,L.p 0,L.p 1]++U 8) (fun L=>[(L.b 0,GC ⟨x,y,false⟩),(L.b 1,GC ⟨0,0,false⟩)]) hp0 ⟨
  oB,oZ rG,
  trivial⟩ (fun L0 _ w1 hp1=>?_)
 refine wp_seq_k (fun K2 k2=>?_)
 refine sgsD [.det (pt (L0.b 0) 12),.det (.bool false),.det (.bool true)] [0,1,2] [0,1,3] (fun L d=>[d 0,L0.p 0,L0.p 1]++(D d 3 2++([.bool true]++U 5))) (fun L=>[(L0.b 0,GC ⟨x,y,false⟩),(L0.b 1,GC ⟨0,0,false⟩)]) hp1 ⟨
  oF fG2,oL1 0 12 oneB,oN,
  trivial⟩ (fun L1 _ w2 hp2=>?_)
 refine cT ?_
 refine gsD [.det (pt (L0.b 0) 6),.det (FV y),.det (FV n1),.det (pt (L0.b 0) 6),.store (.base 0) 6 (FC n1) (GC ⟨x,n1,false⟩)] (nn 5) [0,1,3,7,15] (fun L d=>[d 0,L0.p 0,L0.p 1]++D d 3 8) (fun L=>[(L0.b 0,GC ⟨x,n1,false⟩),(L0.b 1,GC ⟨0,0,false⟩)]) hp2 ⟨
  oF fG1,oL 0 6 rF,oR (nFR o1 (fun w=>R.neg y w trivial)),oF fG1,oT rF,
  trivial⟩ (fun L2 _ w3 hp3=>?_)
 refine k2 _ _ ?_
 refine sgsD [.det (GV ⟨x,n1,false⟩),.store (.base 1) 0 (GC ⟨x,n1,false⟩) (GC ⟨x,n1,false⟩)] [0,1] [0,1] (fun L d=>D d 0 2++([L0.p 1]++D d 3 8)) (fun L=>[(L0.b 0,GC ⟨x,n1,false⟩),(L0.b 1,GC ⟨x,n1,false⟩)]) hp3 ⟨
  oL 0 0 rG,oT rG,
  trivial⟩ (fun L3 _ w4 hp4=>?_)
 refine wp_ret ?_
 refine bodyPost_ret (v:=GV ⟨x,n1,false⟩) ?_ rfl ?_
 ·exact rc rG rfl (by kernel_rfl) (hp4.bound 1 rfl).2
 ·exact ⟨fin,hp4.bel⟩
theorem ref5Minus1 (R:RefK) (P:Pt F) (w:World):Calls Tryz.prog 24 #[GV (gp P)] w (Ret (GV (gp (neg P))) w):=by
 cases P with
 | inf=>exact ref5Min0 R 0 0 w
 | aff x y=>exact ref5Min1 R x y w
theorem ref5Gen1 (R:RefK)  (w:World):Calls Tryz.prog 17 #[] w (Ret (GV (gp gen1)) w):=by
 have hp0:=Heap.start w
 go_enter Tryz.func17,Tryz.ntmps17
 refine sgsD [.alloc (GC ⟨0,0,false⟩)] [0] [0] (fun L d=>[L.p 0]++D d 1 3) (fun L=>[(L.b 0,GC ⟨0,0,false⟩)]) hp0 ⟨
  oZ rG,
  trivial⟩ (fun L0 _ w1 hp1=>?_)
 refine sgsD [.det (FV g1x),.det (FV g1y),.det (GV ⟨g1x,g1y,false⟩),.store (.base 0) 0 (GC ⟨g1x,g1y,false⟩) (GC ⟨g1x,g1y,false⟩)] [0,1,2,3] [0,0,3,7] (fun L d=>[L0.p 0]++D d 1 3) (fun L=>[(L0.b 0,GC ⟨g1x,g1y,false⟩)]) hp1 ⟨
  oD buildFg1x,oD buildFg1y,oD (buildG01 g1x g1y),oT rG,
  trivial⟩ (fun L1 _ w2 hp2=>?_)
 refine wp_ret ?_
 refine bodyPost_ret (v:=GV ⟨g1x,g1y,false⟩) ?_ rfl ?_
 ·exact rc rG rfl (by kernel_rfl) (hp2.bound 0 rfl).2
 ·exact ⟨rfl,hp2.bel⟩
end Go.Proofs.YthnfgmhehfombaaGreatDoor.fpn
