/- Texts laid together. -/
import Derived.Test.YtmibajbpimcfnaaGreatDoorQB
import Derived.Test.YtmibajbpimcfnaaGreatDoorGB
import Derived.Test.YtmibajbpimcfnaaGreatDoorGE
import Derived.Test.YtmibajbpimcfnaaGreatDoorGX
set_option linter.unusedVariables false
set_option linter.unusedSimpArgs false
set_option maxRecDepth 4000
set_option maxHeartbeats 4000000
/- A place's text. -/
namespace Go.Proofs.YtmibajbpimcfnaaGreatDoor.fpn
open Go.RowKit Pl EC
theorem atq {w:World} {q n:Nat} {g:Nat→Int} (off:Nat) (h:∀ j,j<n→w.cell? ⟨q,off+j,none⟩=some (.int .u8 (g (off+j)))):AtK .u8 w (some ⟨q,off,none⟩) n (fun j=>g (off+j)):=fun _=>⟨q,off,rfl,h⟩
theorem fpTakeF {G:World→Prop} (K:FpOk G) (g:Nat→Int) (p:Option Addr) (c:Nat) (w:World) (hg:G w) (hc:48≤c) (hm:c≤9223372036854775807) (h:AtK .u8 w p 48 g) (rg:∀ j,j<48→0≤g j∧g j<256) (a:F) (ha:bv g 48=(a.val:Int)):Calls Tryz.prog 119 #[.slice p 48 c] w (Ret (.tuple #[FV a,.int .i64 0]) w):=by
 have hl:bv g 48<RI:=by rw [ha,RI_RN];have:=a.isLt;omega
 refine Calls.mono (K.take p c g w hg hc hm h rg hl) ?_
 rintro e w' ⟨f,he,rf,vf,hb⟩
 exact ⟨he.trans (congrArg (fun v=>Ending.returned (.tuple #[v,.int .i64 0])) (agg_of rf (vf.trans ha))),hb⟩
theorem fpTakeBig {G:World→Prop} (K:FpOk G) (g:Nat→Int) (p:Option Addr) (c:Nat) (w:World) (hg:G w) (hc:48≤c) (hm:c≤9223372036854775807) (h:AtK .u8 w p 48 g) (rg:∀ j,j<48→0≤g j∧g j<256) (hl:RI≤bv g 48):Calls Tryz.prog 119 #[.slice p 48 c] w (Ret (.tuple #[FV 0,.int .i64 4]) w):=by
 refine Calls.mono (K.takeBig p c g w hg hc hm h rg hl) ?_
 rintro e w' ⟨f,he,rf,vf,hb⟩
 exact ⟨he.trans (congrArg (fun v=>Ending.returned (.tuple #[v,.int .i64 4])) (agg_of (c:=0) rf vf)),hb⟩
theorem readPlace1 {G:World→Prop} (K:FpOk G) (m mr:Int) (gr:Bool) (q c:Nat) (g:Nat→Int) (a:F) (w:World) (hg:G w) (hm:bits .and .u8 m 32=mr) (hgr:(!decide (mr=0))=gr) (lb:48≤c) (mb:c≤9223372036854775807) (hq:∀ j,j<48→w.cell? ⟨q,j,none⟩=some (.int .u8 (g j))) (rf:∀ j,j<48→0≤g j∧g j<256) (ha0:bv (fun j=>g (0+j)) 48=(a.val:Int)):Calls Tryz.prog 85 #[.int .u8 m,.slice (some ⟨q,0,none⟩) 48 c] w (RetN gr (FC a) 1 w):=by
 obtain ⟨pz,ez⟩:∃ pz:Option Addr,pz=(if c=48 then some ⟨q,0,none⟩ else some ⟨q,0+48,none⟩):=⟨_,rfl⟩
 have hp0:=Heap.start w
 go_enter Tryz.func85,Tryz.ntmps85
 refine sgsD [.alloc (TXC ⟨false,false,.slice none 0 0⟩),.det (.int .i64 0)] [0,1] [0,0] (fun L d=>[.int .u8 m,.slice (some ⟨q,0,none⟩) 48 c,undef,undef,L.p 0,d 5]++U 29) (fun L=>[(L.b 0,TXC ⟨false,false,.slice none 0 0⟩)]) hp0 ⟨
  oZ rTX,oA,
  trivial⟩ (fun L0 _ w1 hp1=>?_)
 refine scope_rounds 0 2 rfl (fun K2 k2=>?_)
 refine sgsD [.det (.int .u8 m),.det (.int .u8 mr),.det (.bool gr),.det (TXV ⟨false,gr,.slice none 0 0⟩),.alloc (TXC ⟨false,false,.slice none 0 0⟩),.store (.new 4) 0 (TXC ⟨false,gr,.slice none 0 0⟩) (TXC ⟨false,gr,.slice none 0 0⟩)] (nn 6) [0,1,3,7,0,31] (fun L d=>[d 0,.slice (some ⟨q,0,none⟩) 48 c,undef,undef,L0.p 0,d 5,L.p 4,undef,undef]++(D d 9 4++U 22)) (fun L=>[(L0.b 0,TXC ⟨false,false,.slice none 0 0⟩),(L.b 4,TXC ⟨false,gr,.slice none 0 0⟩)]) hp1 ⟨
  oM,oJ .u8 .u8 m 32 (h:=fun w=>andY _ _ _ _ hm w),oJ .u8 .u8 mr 0 (h:=fun w=>(neqI _ _ _ _ w).trans (by rw [hgr])),oD (buildXg gr),oZ rTX,oT rTX,
  trivial⟩ (fun L1 _ w2 hp2=>?_)
 refine wp_seq_k (fun K4 k4=>?_)
 refine wp_label ?_
 refine k4 _ _ ?_
 refine wp_seq_k (fun K5 k5=>?_)
 refine sgsD [.det (.slice (some ⟨q,0,none⟩) 48 c),.det (.int .i64 48),.det (.bool true)] [0,1,2] [0,1,3] (fun L d=>[d 0,.slice (some ⟨q,0,none⟩) 48 c,undef,undef,L0.p 0,d 5,L1.p 4,undef,undef]++(D d 9 6++([.bool true]++U 19))) (fun L=>[(L0.b 0,TXC ⟨false,false,.slice none 0 0⟩),(L1.b 4,TXC ⟨false,gr,.slice none 0 0⟩)]) hp2 ⟨
  oM,fun h=>⟨ob_len (p:=(some ⟨q,0,none⟩)) (n:=48) (c:=c) (fun _=>rfl) h rfl (fun _=>by kernel_rfl) Tryz.underlying45⟩,oJ .i64 .i64 48 0,
  trivial⟩ (fun L2 _ w3 hp3=>?_)
 refine cT ?_
 refine sgsD [.det (.slice (some ⟨q,0,none⟩) 48 c),.det (.slice (some ⟨q,0,none⟩) 48 c),.det (.tuple #[FV a,.int .i64 0]),.det (.tuple #[FV a,.int .i64 0]),.det (FV a),.det (.int .i64 0),.alloc (FC 0),.store (.new 6) 0 (FC a) (FC a),.det (.int .i64 0)] (nn 9) [0,1,3,7,15,15,0,95,255] (fun L d=>[d 0,.slice (some ⟨q,0,none⟩) 48 c,undef,undef,L0.p 0,d 5,L1.p 4,L.p 6,.int .i64 0]++(D d 9 13++U 13)) (fun L=>[(L0.b 0,TXC ⟨false,false,.slice none 0 0⟩),(L1.b 4,TXC ⟨false,gr,.slice none 0 0⟩),(L.b 6,FC a)]) hp3 ⟨
  oM,oSS (len:=48) (n:=48) Tryz.underlying45 sizeY (by have:=lb;omega),oCS (fun L=>#[.slice (some ⟨q,0,none⟩) 48 c]) (fun L w hs=>fpTakeF K (fun j=>g (0+j)) _ _ w (K.stay hg hs.bel) (by have:=lb;omega) (by have:=mb;omega) (atq 0 (fun j hj=>cell_up (hq _ (by omega)) hs.bel)) (fun j hj=>rf (0+j) (by omega)) a ha0),
  oM,oX,oX,oZ rF,oT rF,oA,
  trivial⟩ (fun L3 _ w4 hp4=>?_)
 refine wp_seq_k (fun K8 k8=>?_)
 refine sgsD [.det (.int .i64 0),.det (.bool false)] [0,1] [0,1] (fun L d=>[d 0,.slice (some ⟨q,0,none⟩) 48 c,undef,undef,L0.p 0,d 5,L1.p 4,L3.p 6]++(D d 8 15++([.bool false]++U 11))) (fun L=>[(L0.b 0,TXC ⟨false,false,.slice none 0 0⟩),(L1.b 4,TXC ⟨false,gr,.slice none 0 0⟩),(L3.b 6,FC a)]) hp4 ⟨
  oM,oJ .i64 .i64 0 0 (h:=fun w=>(neqI _ _ _ _ w).trans rfl),
  trivial⟩ (fun L4 _ w5 hp5=>?_)
 refine cfk (k8 _ _ ?_)
 refine wp_seq_k (fun K10 k10=>?_)
 refine wp_region_list ?_
 refine gsC 4 [.det (pt (L1.b 4) 2),.det (.slice none 0 0),.det (FV a),.any (isRow1 (FC a))] [0,1,2,3] [0,1,3,7] (fun L d=>[d 0,.slice (some ⟨q,0,none⟩) 48 c]++(D d 2 2++([L0.p 0,d 5,L1.p 4]++(D d 7 20++([.slice none 0 0,d 28,L.v 3,undef]++D d 31 4))))) (fun L=>[(L0.b 0,TXC ⟨false,false,.slice none 0 0⟩),(L1.b 4,TXC ⟨false,gr,.slice none 0 0⟩),(L3.b 6,FC a)]) hp5 ⟨
  oF fX2,oL1 1 2 oneFS,oL 2 0 rF,oS2 Tryz.underlying83 rF,
  trivial⟩ (fun L5 _ w6 hp6 ha6=>?_)
 have hr0:=AnyF.at (ha6 (by kernel_rfl)) (j:=3) rfl rfl
 have hle0:=hp6.le
 refine oneL rfl rfl (wp_appendF (B:=w6.heap.size) (.tmp 27) (.tmp 29) rfl (by kernel_rfl) OwnF.nil (by kernel_rfl) hr0 (by decide) (Nat.le_refl _) (fun vN0 xN0 pN0 bN0=>?_))
 have pN0:OwnF xN0 w6.heap.size vN0 (FC a) 1:=pN0
 have o0:=pN0
 obtain ⟨kbN,cbN,rfl,lbN,qbN,xbN⟩:=OwnF.box pN0 (by decide)
 have hpN:=Heap.add (Heap.later hp6 bN0) (Nat.le_trans hp6.le qbN) (fun b hb=>Nat.lt_of_lt_of_le (Heap.lts hp6 b hb) qbN) xbN
 refine gsC 2 [.det (pt (L1.b 4) 2),.store (.base 1) 2 ([.slice (some ⟨kbN,0,none⟩) 1 cbN]) (TXC ⟨false,gr,.slice (some ⟨kbN,0,none⟩) 1 cbN⟩)] [0,1] [0,1] (fun L d=>[d 0,.slice (some ⟨q,0,none⟩) 48 c]++(D d 2 2++([L0.p 0,d 5,L1.p 4]++D d 7 28))) (fun L=>[(L0.b 0,TXC ⟨false,false,.slice none 0 0⟩),(L1.b 4,TXC ⟨false,gr,.slice (some ⟨kbN,0,none⟩) 1 cbN⟩),(L3.b 6,FC a),(kbN,FC a)]) hpN ⟨
  oF fX2,oT1 oneFS,
  trivial⟩ (fun L6 _ w7 hp7 ha7=>?_)
 refine wpList_nil ?_
 refine k10 _ _ ?_
 refine sgsD [.det (.slice (some ⟨q,0,none⟩) 48 c),.det (.slice pz 0 (c-48)),.det (.slice pz 0 (c-48))] [0,1,2] [0,1,3] (fun L d=>[d 0,.slice pz 0 (c-48)]++(D d 2 2++([L0.p 0,d 5,L1.p 4]++D d 7 28))) (fun L=>[(L0.b 0,TXC ⟨false,false,.slice none 0 0⟩),(L1.b 4,TXC ⟨false,gr,.slice (some ⟨kbN,0,none⟩) 1 cbN⟩),(L3.b 6,FC a),(kbN,FC a)]) hp7 ⟨
  oM,oSR (b:=q) (off:=0) (len:=48) (c:=c) (n:=48) (p:=pz) (by decide) (by have:=lb;omega) ez,oA,
  trivial⟩ (fun L7 _ w8 hp8=>?_)
 refine wp_goto ?_
 refine then_goto ?_
 refine k2 _ _ _ ?_
 refine jump_in ?_
 refine rnd_k (fun K12 k12=>?_)
 refine wp_seq_k (fun K13 k13=>?_)
 refine sgsD [.det (.slice pz 0 (c-48)),.det (.int .i64 0),.det (.bool false)] [0,1,2] [0,1,3] (fun L d=>D d 0 4++([L0.p 0,d 5,L1.p 4]++(D d 7 8++([.bool false]++D d 16 19)))) (fun L=>[(L0.b 0,TXC ⟨false,false,.slice none 0 0⟩),(L1.b 4,TXC ⟨false,gr,.slice (some ⟨kbN,0,none⟩) 1 cbN⟩),(L3.b 6,FC a),(kbN,FC a)]) hp8 ⟨
  oM,fun h=>⟨ob_len (p:=pz) (n:=0) (c:=(c-48)) (fun _=>rfl) h rfl (fun _=>by kernel_rfl) Tryz.underlying45⟩,oJ .i64 .i64 0 0,
  trivial⟩ (fun L8 _ w9 hp9=>?_)
 refine cfk (k13 _ _ ?_)
 refine sgsD [.det (TXV ⟨false,gr,.slice (some ⟨kbN,0,none⟩) 1 cbN⟩),.store (.base 0) 0 (TXC ⟨false,gr,.slice (some ⟨kbN,0,none⟩) 1 cbN⟩) (TXC ⟨false,gr,.slice (some ⟨kbN,0,none⟩) 1 cbN⟩),.det (.int .i64 0)] [0,1,2] [0,1,3] (fun L d=>D d 0 4++([L0.p 0,.int .i64 0]++D d 6 29)) (fun L=>[(L0.b 0,TXC ⟨false,gr,.slice (some ⟨kbN,0,none⟩) 1 cbN⟩),(L1.b 4,TXC ⟨false,gr,.slice (some ⟨kbN,0,none⟩) 1 cbN⟩),(L3.b 6,FC a),(kbN,FC a)]) hp9 ⟨
  oL 1 0 rTX,oT rTX,oA,
  trivial⟩ (fun L9 _ w10 hp10=>?_)
 refine wp_ret ?_
 refine k12 _ _ _ ?_
 refine bodyPost_ret (v:=.tuple #[TXV ⟨false,gr,.slice (some ⟨kbN,0,none⟩) 1 cbN⟩,.int .i64 0]) ?_ rfl ?_
 ·exact rct rTX rfl (by kernel_rfl) (by kernel_rfl) (hp10.bound 0 rfl).2
 ·exact ⟨kbN,cbN,rfl,lbN,(hp10.bound 3 rfl).1,(hp10.bound 3 rfl).2,hp10.bel⟩
theorem readPlace1b0 {G:World→Prop} (K:FpOk G) (m mr:Int) (gr:Bool) (q c:Nat) (g:Nat→Int) (w:World) (hg:G w) (hm:bits .and .u8 m 32=mr) (hgr:(!decide (mr=0))=gr) (lb:48≤c) (mb:c≤9223372036854775807) (hq:∀ j,j<48→w.cell? ⟨q,j,none⟩=some (.int .u8 (g j))) (rf:∀ j,j<48→0≤g j∧g j<256) (ha0:RI≤bv (fun j=>g (0+j)) 48):Calls Tryz.prog 85 #[.int .u8 m,.slice (some ⟨q,0,none⟩) 48 c] w (Ret (.tuple #[TXV ⟨false,false,.slice none 0 0⟩,.int .i64 4]) w):=by
 have hp0:=Heap.start w
 go_enter Tryz.func85,Tryz.ntmps85
 refine sgsD [.alloc (TXC ⟨false,false,.slice none 0 0⟩),.det (.int .i64 0)] [0,1] [0,0] (fun L d=>[.int .u8 m,.slice (some ⟨q,0,none⟩) 48 c,undef,undef,L.p 0,d 5]++U 29) (fun L=>[(L.b 0,TXC ⟨false,false,.slice none 0 0⟩)]) hp0 ⟨
  oZ rTX,oA,
  trivial⟩ (fun L0 _ w1 hp1=>?_)
 refine scope_rounds 0 2 rfl (fun K2 k2=>?_)
 refine sgsD [.det (.int .u8 m),.det (.int .u8 mr),.det (.bool gr),.det (TXV ⟨false,gr,.slice none 0 0⟩),.alloc (TXC ⟨false,false,.slice none 0 0⟩),.store (.new 4) 0 (TXC ⟨false,gr,.slice none 0 0⟩) (TXC ⟨false,gr,.slice none 0 0⟩)] (nn 6) [0,1,3,7,0,31] (fun L d=>[d 0,.slice (some ⟨q,0,none⟩) 48 c]++(D d 2 2++([L0.p 0]++D d 5 30))) (fun L=>[(L0.b 0,TXC ⟨false,false,.slice none 0 0⟩),(L.b 4,TXC ⟨false,gr,.slice none 0 0⟩)]) hp1 ⟨
  oM,oJ .u8 .u8 m 32 (h:=fun w=>andY _ _ _ _ hm w),oJ .u8 .u8 mr 0 (h:=fun w=>(neqI _ _ _ _ w).trans (by rw [hgr])),oD (buildXg gr),oZ rTX,oT rTX,
  trivial⟩ (fun L1 _ w2 hp2=>?_)
 refine wp_seq_k (fun K4 k4=>?_)
 refine wp_label ?_
 refine k4 _ _ ?_
 refine wp_seq_k (fun K5 k5=>?_)
 refine sgsD [.det (.slice (some ⟨q,0,none⟩) 48 c),.det (.int .i64 48),.det (.bool true)] [0,1,2] [0,1,3] (fun L d=>[d 0,.slice (some ⟨q,0,none⟩) 48 c]++(D d 2 2++([L0.p 0]++(D d 5 10++([.bool true]++D d 16 19))))) (fun L=>[(L0.b 0,TXC ⟨false,false,.slice none 0 0⟩),(L1.b 4,TXC ⟨false,gr,.slice none 0 0⟩)]) hp2 ⟨
  oM,fun h=>⟨ob_len (p:=(some ⟨q,0,none⟩)) (n:=48) (c:=c) (fun _=>rfl) h rfl (fun _=>by kernel_rfl) Tryz.underlying45⟩,oJ .i64 .i64 48 0,
  trivial⟩ (fun L2 _ w3 hp3=>?_)
 refine cT ?_
 refine sgsD [.det (.slice (some ⟨q,0,none⟩) 48 c),.det (.slice (some ⟨q,0,none⟩) 48 c),.det (.tuple #[FV 0,.int .i64 4]),.det (.tuple #[FV 0,.int .i64 4]),.det (FV 0),.det (.int .i64 4),.alloc (FC 0),.store (.new 6) 0 (FC 0) (FC 0),.det (.int .i64 4)] (nn 9) [0,1,3,7,15,15,0,95,255] (fun L d=>D d 0 4++([L0.p 0]++(D d 5 3++([.int .i64 4]++D d 9 26)))) (fun L=>[(L0.b 0,TXC ⟨false,false,.slice none 0 0⟩),(L1.b 4,TXC ⟨false,gr,.slice none 0 0⟩),(L.b 6,FC 0)]) hp3 ⟨
  oM,oSS (len:=48) (n:=48) Tryz.underlying45 sizeY (by have:=lb;omega),oCS (fun L=>#[.slice (some ⟨q,0,none⟩) 48 c]) (fun L w hs=>fpTakeBig K (fun j=>g (0+j)) _ _ w (K.stay hg hs.bel) (by have:=lb;omega) (by have:=mb;omega) (atq 0 (fun j hj=>cell_up (hq _ (by omega)) hs.bel)) (fun j hj=>rf (0+j) (by omega)) ha0),
  oM,oX,oX,oZ rF,oT rF,oA,
  trivial⟩ (fun L3 _ w4 hp4=>?_)
 refine wp_seq_k (fun K8 k8=>?_)
 refine sgsD [.det (.int .i64 4),.det (.bool true)] [0,1] [0,1] (fun L d=>D d 0 4++([L0.p 0]++(D d 5 3++([.int .i64 4]++(D d 9 14++([.bool true]++D d 24 11)))))) (fun L=>[(L0.b 0,TXC ⟨false,false,.slice none 0 0⟩),(L1.b 4,TXC ⟨false,gr,.slice none 0 0⟩),(L3.b 6,FC 0)]) hp4 ⟨
  oM,oJ .i64 .i64 4 0 (h:=fun w=>(neqI _ _ _ _ w).trans rfl),
  trivial⟩ (fun L4 _ w5 hp5=>?_)
 refine cT ?_
 refine sgsD [.det (TXV ⟨false,false,.slice none 0 0⟩),.det (.int .i64 4),.store (.base 0) 0 (TXC ⟨false,false,.slice none 0 0⟩) (TXC ⟨false,false,.slice none 0 0⟩),.det (.int .i64 4)] [0,1,2,3] [0,0,1,7] (fun L d=>D d 0 4++([L0.p 0,.int .i64 4]++D d 6 29)) (fun L=>[(L0.b 0,TXC ⟨false,false,.slice none 0 0⟩),(L1.b 4,TXC ⟨false,gr,.slice none 0 0⟩),(L3.b 6,FC 0)]) hp5 ⟨
  oD buildXn,oM,oT rTX,oA,
  trivial⟩ (fun L5 _ w6 hp6=>?_)
 refine wp_ret ?_
 refine k2 _ _ _ ?_
 refine bodyPost_ret (v:=.tuple #[TXV ⟨false,false,.slice none 0 0⟩,.int .i64 4]) ?_ rfl ?_
 ·exact rct rTX rfl (by kernel_rfl) (by kernel_rfl) (hp6.bound 0 rfl).2
 ·exact ⟨rfl,hp6.bel⟩
theorem readPlace2 {G:World→Prop} (K:FpOk G) (m mr:Int) (gr:Bool) (q c:Nat) (g:Nat→Int) (a1 a0:F) (w:World) (hg:G w) (hm:bits .and .u8 m 32=mr) (hgr:(!decide (mr=0))=gr) (lb:96≤c) (mb:c≤9223372036854775807) (hq:∀ j,j<96→w.cell? ⟨q,j,none⟩=some (.int .u8 (g j))) (rf:∀ j,j<96→0≤g j∧g j<256) (ha0:bv (fun j=>g (0+j)) 48=(a1.val:Int)) (ha1:bv (fun j=>g (48+j)) 48=(a0.val:Int)):Calls Tryz.prog 85 #[.int .u8 m,.slice (some ⟨q,0,none⟩) 96 c] w (RetN gr (PC ⟨a1,a0⟩) 2 w):=by
 obtain ⟨pz,ez⟩:∃ pz:Option Addr,pz=(if c-48=48 then some ⟨q,48,none⟩ else some ⟨q,48+48,none⟩):=⟨_,rfl⟩
 have hp0:=Heap.start w
 go_enter Tryz.func85,Tryz.ntmps85
 refine sgsD [.alloc (TXC ⟨false,false,.slice none 0 0⟩),.det (.int .i64 0)] [0,1] [0,0] (fun L d=>[.int .u8 m,.slice (some ⟨q,0,none⟩) 96 c,undef,undef,L.p 0,d 5]++U 29) (fun L=>[(L.b 0,TXC ⟨false,false,.slice none 0 0⟩)]) hp0 ⟨
  oZ rTX,oA,
  trivial⟩ (fun L0 _ w1 hp1=>?_)
 refine scope_rounds 0 3 rfl (fun K2 k2=>?_)
 refine sgsD [.det (.int .u8 m),.det (.int .u8 mr),.det (.bool gr),.det (TXV ⟨false,gr,.slice none 0 0⟩),.alloc (TXC ⟨false,false,.slice none 0 0⟩),.store (.new 4) 0 (TXC ⟨false,gr,.slice none 0 0⟩) (TXC ⟨false,gr,.slice none 0 0⟩)] (nn 6) [0,1,3,7,0,31] (fun L d=>[d 0,.slice (some ⟨q,0,none⟩) 96 c,undef,undef,L0.p 0,d 5,L.p 4,undef,undef]++(D d 9 4++U 22)) (fun L=>[(L0.b 0,TXC ⟨false,false,.slice none 0 0⟩),(L.b 4,TXC ⟨false,gr,.slice none 0 0⟩)]) hp1 ⟨
  oM,oJ .u8 .u8 m 32 (h:=fun w=>andY _ _ _ _ hm w),oJ .u8 .u8 mr 0 (h:=fun w=>(neqI _ _ _ _ w).trans (by rw [hgr])),oD (buildXg gr),oZ rTX,oT rTX,
  trivial⟩ (fun L1 _ w2 hp2=>?_)
 refine wp_seq_k (fun K4 k4=>?_)
 refine wp_label ?_
 refine k4 _ _ ?_
 refine wp_seq_k (fun K5 k5=>?_)
 refine sgsD [.det (.slice (some ⟨q,0,none⟩) 96 c),.det (.int .i64 96),.det (.bool true)] [0,1,2] [0,1,3] (fun L d=>[d 0,.slice (some ⟨q,0,none⟩) 96 c,undef,undef,L0.p 0,d 5,L1.p 4,undef,undef]++(D d 9 6++([.bool true]++U 19))) (fun L=>[(L0.b 0,TXC ⟨false,false,.slice none 0 0⟩),(L1.b 4,TXC ⟨false,gr,.slice none 0 0⟩)]) hp2 ⟨
  oM,fun h=>⟨ob_len (p:=(some ⟨q,0,none⟩)) (n:=96) (c:=c) (fun _=>rfl) h rfl (fun _=>by kernel_rfl) Tryz.underlying45⟩,oJ .i64 .i64 96 0,
  trivial⟩ (fun L2 _ w3 hp3=>?_)
 refine cT ?_
 refine sgsD [.det (.slice (some ⟨q,0,none⟩) 96 c),.det (.slice (some ⟨q,0,none⟩) 48 c),.det (.tuple #[FV a1,.int .i64 0]),.det (.tuple #[FV a1,.int .i64 0]),.det (FV a1),.det (.int .i64 0),.alloc (FC 0),.store (.new 6) 0 (FC a1) (FC a1),.det (.int .i64 0)] (nn 9) [0,1,3,7,15,15,0,95,255] (fun L d=>[d 0,.slice (some ⟨q,0,none⟩) 96 c,undef,undef,L0.p 0,d 5,L1.p 4,L.p 6,.int .i64 0]++(D d 9 13++U 13)) (fun L=>[(L0.b 0,TXC ⟨false,false,.slice none 0 0⟩),(L1.b 4,TXC ⟨false,gr,.slice none 0 0⟩),(L.b 6,FC a1)]) hp3 ⟨
  oM,oSS (len:=96) (n:=48) Tryz.underlying45 sizeY (by have:=lb;omega),oCS (fun L=>#[.slice (some ⟨q,0,none⟩) 48 c]) (fun L w hs=>fpTakeF K (fun j=>g (0+j)) _ _ w (K.stay hg hs.bel) (by have:=lb;omega) (by have:=mb;omega) (atq 0 (fun j hj=>cell_up (hq _ (by omega)) hs.bel)) (fun j hj=>rf (0+j) (by omega)) a1 ha0),
  oM,oX,oX,oZ rF,oT rF,oA,
  trivial⟩ (fun L3 _ w4 hp4=>?_)
 refine wp_seq_k (fun K8 k8=>?_)
 refine sgsD [.det (.int .i64 0),.det (.bool false)] [0,1] [0,1] (fun L d=>[d 0,.slice (some ⟨q,0,none⟩) 96 c,undef,undef,L0.p 0,d 5,L1.p 4,L3.p 6]++(D d 8 15++([.bool false]++U 11))) (fun L=>[(L0.b 0,TXC ⟨false,false,.slice none 0 0⟩),(L1.b 4,TXC ⟨false,gr,.slice none 0 0⟩),(L3.b 6,FC a1)]) hp4 ⟨
  oM,oJ .i64 .i64 0 0 (h:=fun w=>(neqI _ _ _ _ w).trans rfl),
  trivial⟩ (fun L4 _ w5 hp5=>?_)
 refine cfk (k8 _ _ ?_)
 refine wp_seq_k (fun K10 k10=>?_)
 refine wp_region_list ?_
 refine gsC 4 [.det (pt (L1.b 4) 2),.det (.slice none 0 0),.det (FV a1),.any (isRow1 (FC a1))] [0,1,2,3] [0,1,3,7] (fun L d=>[d 0,.slice (some ⟨q,0,none⟩) 96 c]++(D d 2 2++([L0.p 0,d 5,L1.p 4,L3.p 6]++(D d 8 19++([.slice none 0 0,d 28,L.v 3,undef]++D d 31 4))))) (fun L=>[(L0.b 0,TXC ⟨false,false,.slice none 0 0⟩),(L1.b 4,TXC ⟨false,gr,.slice none 0 0⟩),(L3.b 6,FC a1)]) hp5 ⟨
  oF fX2,oL1 1 2 oneFS,oL 2 0 rF,oS2 Tryz.underlying83 rF,
  trivial⟩ (fun L5 _ w6 hp6 ha6=>?_)
 have hr0:=AnyF.at (ha6 (by kernel_rfl)) (j:=3) rfl rfl
 have hle0:=hp6.le
 refine oneL rfl rfl (wp_appendF (B:=w6.heap.size) (.tmp 27) (.tmp 29) rfl (by kernel_rfl) OwnF.nil (by kernel_rfl) hr0 (by decide) (Nat.le_refl _) (fun vN0 xN0 pN0 bN0=>?_))
 have pN0:OwnF xN0 w6.heap.size vN0 (FC a1) 1:=pN0
 have o0:=pN0
 obtain ⟨kb0,cb0,rfl,lb0,qb0,xb0⟩:=OwnF.box pN0 (by decide)
 have hS:List.Sublist [(L0.b 0,TXC ⟨false,false,.slice none 0 0⟩),(L1.b 4,TXC ⟨false,gr,.slice none 0 0⟩)] [(L0.b 0,TXC ⟨false,false,.slice none 0 0⟩),(L1.b 4,TXC ⟨false,gr,.slice none 0 0⟩),(L3.b 6,FC a1)]:=List.sublist_append_left [(L0.b 0,TXC ⟨false,false,.slice none 0 0⟩),(L1.b 4,TXC ⟨false,gr,.slice none 0 0⟩)] [(L3.b 6,FC a1)]
 have hlt:=Heap.lts (Heap.sub hp6 hS)
 have hH0:=Heap.sub (Heap.later hp6 bN0) hS
 have hgw:=hg
 have hqw:=hq
 have hsxN0:=Heap.start xN0
 have hg:=K.stay hg hH0.bel
 have hq:=fun j hj=>cell_up (hq j hj) hH0.bel
 have hX0:=(hH0.bound 0 rfl).2
 have hX1:=(hH0.bound 1 rfl).2
 refine gsC 1 [.det (pt (L1.b 4) 2)] [0] [0] (fun L d=>[d 0,.slice (some ⟨q,0,none⟩) 96 c]++(D d 2 2++([L0.p 0,d 5,L1.p 4,L3.p 6]++(D d 8 22++([.slice (some ⟨kb0,0,none⟩) 1 cb0,pt (L1.b 4) 2]++D d 32 3))))) (fun L=>[]) hsxN0 ⟨
  oF fX2,
  trivial⟩ (fun L6 _ w7 hp7 ha7=>?_)
 refine oneL rfl rfl (wp_store1 (off:=2) (v:=.slice (some ⟨kb0,0,none⟩) 1 cb0) (new:=TXC ⟨false,gr,.slice (some ⟨kb0,0,none⟩) 1 cb0⟩) oneFS rfl (by kernel_rfl) (by kernel_rfl) rfl rfl ((Heap.later hH0 hp7.bel).bound 1 rfl).2 (Nat.le_refl 3) (by kernel_rfl) rfl (fun y0 hy0 hz0=>?_))
 have hH1:=Heap.turn (Heap.later hH0 hp7.bel) hy0 hz0
 have o1:=(o0.below hp7.bel).wr hy0 (hlt _ (by simp))
 have hBB:w6.heap.size≤y0.heap.size:=by have h1:=bN0.size;have h2:=hp7.bel.size;have h3:=hy0.size;omega
 have hsy0:=Heap.start y0
 have hg:=K.stay hgw hH1.bel
 have hq:=fun j hj=>cell_up (hqw j hj) hH1.bel
 have hX0:=(hH1.bound 0 rfl).2
 have hX1:=(hH1.bound 1 rfl).2
 refine wpList_nil ?_
 refine k10 _ _ ?_
 refine sgsD [.det (.slice (some ⟨q,0,none⟩) 96 c),.det (.slice (some ⟨q,48,none⟩) 48 (c-48)),.det (.slice (some ⟨q,48,none⟩) 48 (c-48))] [0,1,2] [0,1,3] (fun L d=>[d 0,.slice (some ⟨q,48,none⟩) 48 (c-48)]++(D d 2 2++([L0.p 0,d 5,L1.p 4,L3.p 6]++(D d 8 22++([.slice (some ⟨kb0,0,none⟩) 1 cb0]++D d 31 4))))) (fun L=>[]) hsy0 ⟨
  oM,oSG (len:=96) (c:=c) (n:=48) (by decide) (by have:=lb;omega) lb,oA,
  trivial⟩ (fun L7 _ w8 hp8=>?_)
 refine wp_goto ?_
 refine then_goto ?_
 refine k2 _ _ _ ?_
 refine jump_in ?_
 refine rnd_k (fun K12 k12=>?_)
 refine wp_seq_k (fun K13 k13=>?_)
 refine sgsD [.det (.slice (some ⟨q,48,none⟩) 48 (c-48)),.det (.int .i64 48),.det (.bool true)] [0,1,2] [0,1,3] (fun L d=>[d 0,.slice (some ⟨q,48,none⟩) 48 (c-48)]++(D d 2 2++([L0.p 0,d 5,L1.p 4,L3.p 6]++(D d 8 7++([.bool true]++(D d 16 14++([.slice (some ⟨kb0,0,none⟩) 1 cb0]++D d 31 4))))))) (fun L=>[]) hp8 ⟨
  oM,fun h=>⟨ob_len (p:=(some ⟨q,48,none⟩)) (n:=48) (c:=(c-48)) (fun _=>rfl) h rfl (fun _=>by kernel_rfl) Tryz.underlying45⟩,oJ .i64 .i64 48 0,
  trivial⟩ (fun L8 _ w9 hp9=>?_)
 refine cT ?_
 refine sgsD [.det (.slice (some ⟨q,48,none⟩) 48 (c-48)),.det (.slice (some ⟨q,48,none⟩) 48 (c-48)),.det (.tuple #[FV a0,.int .i64 0]),.det (.tuple #[FV a0,.int .i64 0]),.det (FV a0),.det (.int .i64 0),.alloc (FC 0),.store (.new 6) 0 (FC a0) (FC a0),.det (.int .i64 0)] (nn 9) [0,1,3,7,15,15,0,95,255] (fun L d=>[d 0,.slice (some ⟨q,48,none⟩) 48 (c-48)]++(D d 2 2++([L0.p 0,d 5,L1.p 4,L.p 6,.int .i64 0]++(D d 9 21++([.slice (some ⟨kb0,0,none⟩) 1 cb0]++D d 31 4))))) (fun L=>[(L.b 6,FC a0)]) hp9 ⟨
  oM,oSS (len:=48) (n:=48) Tryz.underlying45 sizeY (by have:=lb;omega),oCS (fun L=>#[.slice (some ⟨q,48,none⟩) 48 (c-48)]) (fun L w hs=>fpTakeF K (fun j=>g (48+j)) _ _ w (K.stay hg hs.bel) (by have:=lb;omega) (by have:=mb;omega) (atq 48 (fun j hj=>cell_up (hq _ (by omega)) hs.bel)) (fun j hj=>rf (48+j) (by omega)) a0 ha1),
  oM,oX,oX,oZ rF,oT rF,oA,
  trivial⟩ (fun L9 _ w10 hp10=>?_)
 refine wp_seq_k (fun K16 k16=>?_)
 refine sgsD [.det (.int .i64 0),.det (.bool false)] [0,1] [0,1] (fun L d=>[d 0,.slice (some ⟨q,48,none⟩) 48 (c-48)]++(D d 2 2++([L0.p 0,d 5,L1.p 4,L9.p 6]++(D d 8 15++([.bool false]++(D d 24 6++([.slice (some ⟨kb0,0,none⟩) 1 cb0]++D d 31 4))))))) (fun L=>[(L9.b 6,FC a0)]) hp10 ⟨
  oM,oJ .i64 .i64 0 0 (h:=fun w=>(neqI _ _ _ _ w).trans rfl),
  trivial⟩ (fun L10 _ w11 hp11=>?_)
 refine cfk (k16 _ _ ?_)
 refine wp_seq_k (fun K18 k18=>?_)
 refine wp_region_list ?_
 refine gsC 4 [.det (pt (L1.b 4) 2),.det (.slice (some ⟨kb0,0,none⟩) 1 cb0),.det (FV a0),.any (isRow1 (FC a0))] [0,1,2,3] [0,1,3,7] (fun L d=>[d 0,.slice (some ⟨q,48,none⟩) 48 (c-48)]++(D d 2 2++([L0.p 0,d 5,L1.p 4]++(D d 7 20++([.slice (some ⟨kb0,0,none⟩) 1 cb0,d 28,L.v 3,.slice (some ⟨kb0,0,none⟩) 1 cb0]++D d 31 4))))) (fun L=>[(L9.b 6,FC a0)]) hp11 ⟨
  oF fX2,oLC oneFS (fun L w hs=>(hX1.up hs.bel).cells 2 _ rfl),oL 0 0 rF,oS2 Tryz.underlying83 rF,
  trivial⟩ (fun L11 _ w12 hp12 ha12=>?_)
 have hr1:=AnyF.at (ha12 (by kernel_rfl)) (j:=3) rfl rfl
 refine oneL rfl rfl (wp_appendF (B:=w6.heap.size) (.tmp 27) (.tmp 29) rfl (by kernel_rfl) (o1.below hp12.bel) (by kernel_rfl) hr1 (by decide) (Nat.le_trans hBB hp12.bel.size) (fun vN1 xN1 pN1 bN1=>?_))
 have pN1:OwnF xN1 w6.heap.size vN1 (PC ⟨a1,a0⟩) 2:=pN1
 have o0:=pN1
 obtain ⟨kbN,cbN,rfl,lbN,qbN,xbN⟩:=OwnF.box pN1 (by decide)
 have hpN:=Heap.add (Heap.under (Heap.later hH1 hp12.bel) hle0 bN1 hlt) (Nat.le_trans hle0 qbN) (fun b hb=>Nat.lt_of_lt_of_le (hlt b hb) qbN) xbN
 refine gsC 2 [.det (pt (L1.b 4) 2),.store (.base 1) 2 ([.slice (some ⟨kbN,0,none⟩) 2 cbN]) (TXC ⟨false,gr,.slice (some ⟨kbN,0,none⟩) 2 cbN⟩)] [0,1] [0,1] (fun L d=>[d 0,.slice (some ⟨q,48,none⟩) 48 (c-48)]++(D d 2 2++([L0.p 0,d 5,L1.p 4]++D d 7 28))) (fun L=>[(L0.b 0,TXC ⟨false,false,.slice none 0 0⟩),(L1.b 4,TXC ⟨false,gr,.slice (some ⟨kbN,0,none⟩) 2 cbN⟩),(kbN,PC ⟨a1,a0⟩)]) hpN ⟨
  oF fX2,oT1 oneFS,
  trivial⟩ (fun L12 _ w13 hp13 ha13=>?_)
 refine wpList_nil ?_
 refine k18 _ _ ?_
 refine sgsD [.det (.slice (some ⟨q,48,none⟩) 48 (c-48)),.det (.slice pz 0 (c-96)),.det (.slice pz 0 (c-96))] [0,1,2] [0,1,3] (fun L d=>[d 0,.slice pz 0 (c-96)]++(D d 2 2++([L0.p 0,d 5,L1.p 4]++D d 7 28))) (fun L=>[(L0.b 0,TXC ⟨false,false,.slice none 0 0⟩),(L1.b 4,TXC ⟨false,gr,.slice (some ⟨kbN,0,none⟩) 2 cbN⟩),(kbN,PC ⟨a1,a0⟩)]) hp13 ⟨
  oM,oSR (b:=q) (off:=48) (len:=48) (c:=(c-48)) (n:=48) (p:=pz) (by decide) (by have:=lb;omega) ez,oA,
  trivial⟩ (fun L13 _ w14 hp14=>?_)
 refine wp_goto ?_
 refine then_goto ?_
 refine k12 _ _ _ ?_
 refine jump_in ?_
 refine rnd_k (fun K20 k20=>?_)
 refine wp_seq_k (fun K21 k21=>?_)
 refine sgsD [.det (.slice pz 0 (c-96)),.det (.int .i64 0),.det (.bool false)] [0,1,2] [0,1,3] (fun L d=>D d 0 4++([L0.p 0,d 5,L1.p 4]++(D d 7 8++([.bool false]++D d 16 19)))) (fun L=>[(L0.b 0,TXC ⟨false,false,.slice none 0 0⟩),(L1.b 4,TXC ⟨false,gr,.slice (some ⟨kbN,0,none⟩) 2 cbN⟩),(kbN,PC ⟨a1,a0⟩)]) hp14 ⟨
  oM,fun h=>⟨ob_len (p:=pz) (n:=0) (c:=(c-96)) (fun _=>rfl) h rfl (fun _=>by kernel_rfl) Tryz.underlying45⟩,oJ .i64 .i64 0 0,
  trivial⟩ (fun L14 _ w15 hp15=>?_)
 refine cfk (k21 _ _ ?_)
 refine sgsD [.det (TXV ⟨false,gr,.slice (some ⟨kbN,0,none⟩) 2 cbN⟩),.store (.base 0) 0 (TXC ⟨false,gr,.slice (some ⟨kbN,0,none⟩) 2 cbN⟩) (TXC ⟨false,gr,.slice (some ⟨kbN,0,none⟩) 2 cbN⟩),.det (.int .i64 0)] [0,1,2] [0,1,3] (fun L d=>D d 0 4++([L0.p 0,.int .i64 0]++D d 6 29)) (fun L=>[(L0.b 0,TXC ⟨false,gr,.slice (some ⟨kbN,0,none⟩) 2 cbN⟩),(L1.b 4,TXC ⟨false,gr,.slice (some ⟨kbN,0,none⟩) 2 cbN⟩),(kbN,PC ⟨a1,a0⟩)]) hp15 ⟨
  oL 1 0 rTX,oT rTX,oA,
  trivial⟩ (fun L15 _ w16 hp16=>?_)
 refine wp_ret ?_
 refine k20 _ _ _ ?_
 refine bodyPost_ret (v:=.tuple #[TXV ⟨false,gr,.slice (some ⟨kbN,0,none⟩) 2 cbN⟩,.int .i64 0]) ?_ rfl ?_
 ·exact rct rTX rfl (by kernel_rfl) (by kernel_rfl) (hp16.bound 0 rfl).2
 ·exact ⟨kbN,cbN,rfl,lbN,(hp16.bound 2 rfl).1,(hp16.bound 2 rfl).2,hp16.bel⟩
theorem readPlace2b0 {G:World→Prop} (K:FpOk G) (m mr:Int) (gr:Bool) (q c:Nat) (g:Nat→Int) (w:World) (hg:G w) (hm:bits .and .u8 m 32=mr) (hgr:(!decide (mr=0))=gr) (lb:96≤c) (mb:c≤9223372036854775807) (hq:∀ j,j<96→w.cell? ⟨q,j,none⟩=some (.int .u8 (g j))) (rf:∀ j,j<96→0≤g j∧g j<256) (ha0:RI≤bv (fun j=>g (0+j)) 48):Calls Tryz.prog 85 #[.int .u8 m,.slice (some ⟨q,0,none⟩) 96 c] w (Ret (.tuple #[TXV ⟨false,false,.slice none 0 0⟩,.int .i64 4]) w):=by
 have hp0:=Heap.start w
 go_enter Tryz.func85,Tryz.ntmps85
 refine sgsD [.alloc (TXC ⟨false,false,.slice none 0 0⟩),.det (.int .i64 0)] [0,1] [0,0] (fun L d=>[.int .u8 m,.slice (some ⟨q,0,none⟩) 96 c,undef,undef,L.p 0,d 5]++U 29) (fun L=>[(L.b 0,TXC ⟨false,false,.slice none 0 0⟩)]) hp0 ⟨
  oZ rTX,oA,
  trivial⟩ (fun L0 _ w1 hp1=>?_)
 refine scope_rounds 0 3 rfl (fun K2 k2=>?_)
 refine sgsD [.det (.int .u8 m),.det (.int .u8 mr),.det (.bool gr),.det (TXV ⟨false,gr,.slice none 0 0⟩),.alloc (TXC ⟨false,false,.slice none 0 0⟩),.store (.new 4) 0 (TXC ⟨false,gr,.slice none 0 0⟩) (TXC ⟨false,gr,.slice none 0 0⟩)] (nn 6) [0,1,3,7,0,31] (fun L d=>[d 0,.slice (some ⟨q,0,none⟩) 96 c]++(D d 2 2++([L0.p 0]++D d 5 30))) (fun L=>[(L0.b 0,TXC ⟨false,false,.slice none 0 0⟩),(L.b 4,TXC ⟨false,gr,.slice none 0 0⟩)]) hp1 ⟨
  oM,oJ .u8 .u8 m 32 (h:=fun w=>andY _ _ _ _ hm w),oJ .u8 .u8 mr 0 (h:=fun w=>(neqI _ _ _ _ w).trans (by rw [hgr])),oD (buildXg gr),oZ rTX,oT rTX,
  trivial⟩ (fun L1 _ w2 hp2=>?_)
 refine wp_seq_k (fun K4 k4=>?_)
 refine wp_label ?_
 refine k4 _ _ ?_
 refine wp_seq_k (fun K5 k5=>?_)
 refine sgsD [.det (.slice (some ⟨q,0,none⟩) 96 c),.det (.int .i64 96),.det (.bool true)] [0,1,2] [0,1,3] (fun L d=>[d 0,.slice (some ⟨q,0,none⟩) 96 c]++(D d 2 2++([L0.p 0]++(D d 5 10++([.bool true]++D d 16 19))))) (fun L=>[(L0.b 0,TXC ⟨false,false,.slice none 0 0⟩),(L1.b 4,TXC ⟨false,gr,.slice none 0 0⟩)]) hp2 ⟨
  oM,fun h=>⟨ob_len (p:=(some ⟨q,0,none⟩)) (n:=96) (c:=c) (fun _=>rfl) h rfl (fun _=>by kernel_rfl) Tryz.underlying45⟩,oJ .i64 .i64 96 0,
  trivial⟩ (fun L2 _ w3 hp3=>?_)
 refine cT ?_
 refine sgsD [.det (.slice (some ⟨q,0,none⟩) 96 c),.det (.slice (some ⟨q,0,none⟩) 48 c),.det (.tuple #[FV 0,.int .i64 4]),.det (.tuple #[FV 0,.int .i64 4]),.det (FV 0),.det (.int .i64 4),.alloc (FC 0),.store (.new 6) 0 (FC 0) (FC 0),.det (.int .i64 4)] (nn 9) [0,1,3,7,15,15,0,95,255] (fun L d=>D d 0 4++([L0.p 0]++(D d 5 3++([.int .i64 4]++D d 9 26)))) (fun L=>[(L0.b 0,TXC ⟨false,false,.slice none 0 0⟩),(L1.b 4,TXC ⟨false,gr,.slice none 0 0⟩),(L.b 6,FC 0)]) hp3 ⟨
  oM,oSS (len:=96) (n:=48) Tryz.underlying45 sizeY (by have:=lb;omega),oCS (fun L=>#[.slice (some ⟨q,0,none⟩) 48 c]) (fun L w hs=>fpTakeBig K (fun j=>g (0+j)) _ _ w (K.stay hg hs.bel) (by have:=lb;omega) (by have:=mb;omega) (atq 0 (fun j hj=>cell_up (hq _ (by omega)) hs.bel)) (fun j hj=>rf (0+j) (by omega)) ha0),
  oM,oX,oX,oZ rF,oT rF,oA,
  trivial⟩ (fun L3 _ w4 hp4=>?_)
 refine wp_seq_k (fun K8 k8=>?_)
 refine sgsD [.det (.int .i64 4),.det (.bool true)] [0,1] [0,1] (fun L d=>D d 0 4++([L0.p 0]++(D d 5 3++([.int .i64 4]++(D d 9 14++([.bool true]++D d 24 11)))))) (fun L=>[(L0.b 0,TXC ⟨false,false,.slice none 0 0⟩),(L1.b 4,TXC ⟨false,gr,.slice none 0 0⟩),(L3.b 6,FC 0)]) hp4 ⟨
  oM,oJ .i64 .i64 4 0 (h:=fun w=>(neqI _ _ _ _ w).trans rfl),
  trivial⟩ (fun L4 _ w5 hp5=>?_)
 refine cT ?_
 refine sgsD [.det (TXV ⟨false,false,.slice none 0 0⟩),.det (.int .i64 4),.store (.base 0) 0 (TXC ⟨false,false,.slice none 0 0⟩) (TXC ⟨false,false,.slice none 0 0⟩),.det (.int .i64 4)] [0,1,2,3] [0,0,1,7] (fun L d=>D d 0 4++([L0.p 0,.int .i64 4]++D d 6 29)) (fun L=>[(L0.b 0,TXC ⟨false,false,.slice none 0 0⟩),(L1.b 4,TXC ⟨false,gr,.slice none 0 0⟩),(L3.b 6,FC 0)]) hp5 ⟨
  oD buildXn,oM,oT rTX,oA,
  trivial⟩ (fun L5 _ w6 hp6=>?_)
 refine wp_ret ?_
 refine k2 _ _ _ ?_
 refine bodyPost_ret (v:=.tuple #[TXV ⟨false,false,.slice none 0 0⟩,.int .i64 4]) ?_ rfl ?_
 ·exact rct rTX rfl (by kernel_rfl) (by kernel_rfl) (hp6.bound 0 rfl).2
 ·exact ⟨rfl,hp6.bel⟩
theorem readPlace2b1 {G:World→Prop} (K:FpOk G) (m mr:Int) (gr:Bool) (q c:Nat) (g:Nat→Int) (a1:F) (w:World) (hg:G w) (hm:bits .and .u8 m 32=mr) (hgr:(!decide (mr=0))=gr) (lb:96≤c) (mb:c≤9223372036854775807) (hq:∀ j,j<96→w.cell? ⟨q,j,none⟩=some (.int .u8 (g j))) (rf:∀ j,j<96→0≤g j∧g j<256) (ha0:bv (fun j=>g (0+j)) 48=(a1.val:Int)) (ha1:RI≤bv (fun j=>g (48+j)) 48):Calls Tryz.prog 85 #[.int .u8 m,.slice (some ⟨q,0,none⟩) 96 c] w (Ret (.tuple #[TXV ⟨false,false,.slice none 0 0⟩,.int .i64 4]) w):=by
 obtain ⟨pz,ez⟩:∃ pz:Option Addr,pz=(if c-48=48 then some ⟨q,48,none⟩ else some ⟨q,48+48,none⟩):=⟨_,rfl⟩
 have hp0:=Heap.start w
 go_enter Tryz.func85,Tryz.ntmps85
 refine sgsD [.alloc (TXC ⟨false,false,.slice none 0 0⟩),.det (.int .i64 0)] [0,1] [0,0] (fun L d=>[.int .u8 m,.slice (some ⟨q,0,none⟩) 96 c,undef,undef,L.p 0,d 5]++U 29) (fun L=>[(L.b 0,TXC ⟨false,false,.slice none 0 0⟩)]) hp0 ⟨
  oZ rTX,oA,
  trivial⟩ (fun L0 _ w1 hp1=>?_)
 refine scope_rounds 0 3 rfl (fun K2 k2=>?_)
 refine sgsD [.det (.int .u8 m),.det (.int .u8 mr),.det (.bool gr),.det (TXV ⟨false,gr,.slice none 0 0⟩),.alloc (TXC ⟨false,false,.slice none 0 0⟩),.store (.new 4) 0 (TXC ⟨false,gr,.slice none 0 0⟩) (TXC ⟨false,gr,.slice none 0 0⟩)] (nn 6) [0,1,3,7,0,31] (fun L d=>[d 0,.slice (some ⟨q,0,none⟩) 96 c,undef,undef,L0.p 0,d 5,L.p 4,undef,undef]++(D d 9 4++U 22)) (fun L=>[(L0.b 0,TXC ⟨false,false,.slice none 0 0⟩),(L.b 4,TXC ⟨false,gr,.slice none 0 0⟩)]) hp1 ⟨
  oM,oJ .u8 .u8 m 32 (h:=fun w=>andY _ _ _ _ hm w),oJ .u8 .u8 mr 0 (h:=fun w=>(neqI _ _ _ _ w).trans (by rw [hgr])),oD (buildXg gr),oZ rTX,oT rTX,
  trivial⟩ (fun L1 _ w2 hp2=>?_)
 refine wp_seq_k (fun K4 k4=>?_)
 refine wp_label ?_
 refine k4 _ _ ?_
 refine wp_seq_k (fun K5 k5=>?_)
 refine sgsD [.det (.slice (some ⟨q,0,none⟩) 96 c),.det (.int .i64 96),.det (.bool true)] [0,1,2] [0,1,3] (fun L d=>[d 0,.slice (some ⟨q,0,none⟩) 96 c,undef,undef,L0.p 0,d 5,L1.p 4,undef,undef]++(D d 9 6++([.bool true]++U 19))) (fun L=>[(L0.b 0,TXC ⟨false,false,.slice none 0 0⟩),(L1.b 4,TXC ⟨false,gr,.slice none 0 0⟩)]) hp2 ⟨
  oM,fun h=>⟨ob_len (p:=(some ⟨q,0,none⟩)) (n:=96) (c:=c) (fun _=>rfl) h rfl (fun _=>by kernel_rfl) Tryz.underlying45⟩,oJ .i64 .i64 96 0,
  trivial⟩ (fun L2 _ w3 hp3=>?_)
 refine cT ?_
 refine sgsD [.det (.slice (some ⟨q,0,none⟩) 96 c),.det (.slice (some ⟨q,0,none⟩) 48 c),.det (.tuple #[FV a1,.int .i64 0]),.det (.tuple #[FV a1,.int .i64 0]),.det (FV a1),.det (.int .i64 0),.alloc (FC 0),.store (.new 6) 0 (FC a1) (FC a1),.det (.int .i64 0)] (nn 9) [0,1,3,7,15,15,0,95,255] (fun L d=>[d 0,.slice (some ⟨q,0,none⟩) 96 c,undef,undef,L0.p 0,d 5,L1.p 4,L.p 6,.int .i64 0]++(D d 9 13++U 13)) (fun L=>[(L0.b 0,TXC ⟨false,false,.slice none 0 0⟩),(L1.b 4,TXC ⟨false,gr,.slice none 0 0⟩),(L.b 6,FC a1)]) hp3 ⟨
  oM,oSS (len:=96) (n:=48) Tryz.underlying45 sizeY (by have:=lb;omega),oCS (fun L=>#[.slice (some ⟨q,0,none⟩) 48 c]) (fun L w hs=>fpTakeF K (fun j=>g (0+j)) _ _ w (K.stay hg hs.bel) (by have:=lb;omega) (by have:=mb;omega) (atq 0 (fun j hj=>cell_up (hq _ (by omega)) hs.bel)) (fun j hj=>rf (0+j) (by omega)) a1 ha0),
  oM,oX,oX,oZ rF,oT rF,oA,
  trivial⟩ (fun L3 _ w4 hp4=>?_)
 refine wp_seq_k (fun K8 k8=>?_)
 refine sgsD [.det (.int .i64 0),.det (.bool false)] [0,1] [0,1] (fun L d=>[d 0,.slice (some ⟨q,0,none⟩) 96 c,undef,undef,L0.p 0,d 5,L1.p 4,L3.p 6]++(D d 8 15++([.bool false]++U 11))) (fun L=>[(L0.b 0,TXC ⟨false,false,.slice none 0 0⟩),(L1.b 4,TXC ⟨false,gr,.slice none 0 0⟩),(L3.b 6,FC a1)]) hp4 ⟨
  oM,oJ .i64 .i64 0 0 (h:=fun w=>(neqI _ _ _ _ w).trans rfl),
  trivial⟩ (fun L4 _ w5 hp5=>?_)
 refine cfk (k8 _ _ ?_)
 refine wp_seq_k (fun K10 k10=>?_)
 refine wp_region_list ?_
 refine gsC 4 [.det (pt (L1.b 4) 2),.det (.slice none 0 0),.det (FV a1),.any (isRow1 (FC a1))] [0,1,2,3] [0,1,3,7] (fun L d=>[d 0,.slice (some ⟨q,0,none⟩) 96 c]++(D d 2 2++([L0.p 0,d 5,L1.p 4,L3.p 6]++(D d 8 19++([.slice none 0 0,d 28,L.v 3,undef]++D d 31 4))))) (fun L=>[(L0.b 0,TXC ⟨false,false,.slice none 0 0⟩),(L1.b 4,TXC ⟨false,gr,.slice none 0 0⟩),(L3.b 6,FC a1)]) hp5 ⟨
  oF fX2,oL1 1 2 oneFS,oL 2 0 rF,oS2 Tryz.underlying83 rF,
  trivial⟩ (fun L5 _ w6 hp6 ha6=>?_)
 have hr0:=AnyF.at (ha6 (by kernel_rfl)) (j:=3) rfl rfl
 have hle0:=hp6.le
 refine oneL rfl rfl (wp_appendF (B:=w6.heap.size) (.tmp 27) (.tmp 29) rfl (by kernel_rfl) OwnF.nil (by kernel_rfl) hr0 (by decide) (Nat.le_refl _) (fun vN0 xN0 pN0 bN0=>?_))
 have pN0:OwnF xN0 w6.heap.size vN0 (FC a1) 1:=pN0
 have o0:=pN0
 obtain ⟨kb0,cb0,rfl,lb0,qb0,xb0⟩:=OwnF.box pN0 (by decide)
 have hS:List.Sublist [(L0.b 0,TXC ⟨false,false,.slice none 0 0⟩),(L1.b 4,TXC ⟨false,gr,.slice none 0 0⟩)] [(L0.b 0,TXC ⟨false,false,.slice none 0 0⟩),(L1.b 4,TXC ⟨false,gr,.slice none 0 0⟩),(L3.b 6,FC a1)]:=List.sublist_append_left [(L0.b 0,TXC ⟨false,false,.slice none 0 0⟩),(L1.b 4,TXC ⟨false,gr,.slice none 0 0⟩)] [(L3.b 6,FC a1)]
 have hlt:=Heap.lts (Heap.sub hp6 hS)
 have hH0:=Heap.sub (Heap.later hp6 bN0) hS
 have hgw:=hg
 have hqw:=hq
 have hsxN0:=Heap.start xN0
 have hg:=K.stay hg hH0.bel
 have hq:=fun j hj=>cell_up (hq j hj) hH0.bel
 have hX0:=(hH0.bound 0 rfl).2
 have hX1:=(hH0.bound 1 rfl).2
 refine gsC 1 [.det (pt (L1.b 4) 2)] [0] [0] (fun L d=>[d 0,.slice (some ⟨q,0,none⟩) 96 c]++(D d 2 2++([L0.p 0]++(D d 5 2++([L3.p 6]++(D d 8 22++([.slice (some ⟨kb0,0,none⟩) 1 cb0,pt (L1.b 4) 2]++D d 32 3))))))) (fun L=>[]) hsxN0 ⟨
  oF fX2,
  trivial⟩ (fun L6 _ w7 hp7 ha7=>?_)
 refine oneL rfl rfl (wp_store1 (off:=2) (v:=.slice (some ⟨kb0,0,none⟩) 1 cb0) (new:=TXC ⟨false,gr,.slice (some ⟨kb0,0,none⟩) 1 cb0⟩) oneFS rfl (by kernel_rfl) (by kernel_rfl) rfl rfl ((Heap.later hH0 hp7.bel).bound 1 rfl).2 (Nat.le_refl 3) (by kernel_rfl) rfl (fun y0 hy0 hz0=>?_))
 have hH1:=Heap.turn (Heap.later hH0 hp7.bel) hy0 hz0
 have o1:=(o0.below hp7.bel).wr hy0 (hlt _ (by simp))
 have hBB:w6.heap.size≤y0.heap.size:=by have h1:=bN0.size;have h2:=hp7.bel.size;have h3:=hy0.size;omega
 have hsy0:=Heap.start y0
 have hg:=K.stay hgw hH1.bel
 have hq:=fun j hj=>cell_up (hqw j hj) hH1.bel
 have hX0:=(hH1.bound 0 rfl).2
 have hX1:=(hH1.bound 1 rfl).2
 refine wpList_nil ?_
 refine k10 _ _ ?_
 refine sgsD [.det (.slice (some ⟨q,0,none⟩) 96 c),.det (.slice (some ⟨q,48,none⟩) 48 (c-48)),.det (.slice (some ⟨q,48,none⟩) 48 (c-48))] [0,1,2] [0,1,3] (fun L d=>[d 0,.slice (some ⟨q,48,none⟩) 48 (c-48)]++(D d 2 2++([L0.p 0]++(D d 5 2++([L3.p 6]++D d 8 27))))) (fun L=>[]) hsy0 ⟨
  oM,oSG (len:=96) (c:=c) (n:=48) (by decide) (by have:=lb;omega) lb,oA,
  trivial⟩ (fun L7 _ w8 hp8=>?_)
 refine wp_goto ?_
 refine then_goto ?_
 refine k2 _ _ _ ?_
 refine jump_in ?_
 refine rnd_k (fun K12 k12=>?_)
 refine wp_seq_k (fun K13 k13=>?_)
 refine sgsD [.det (.slice (some ⟨q,48,none⟩) 48 (c-48)),.det (.int .i64 48),.det (.bool true)] [0,1,2] [0,1,3] (fun L d=>[d 0,.slice (some ⟨q,48,none⟩) 48 (c-48)]++(D d 2 2++([L0.p 0]++(D d 5 2++([L3.p 6]++(D d 8 7++([.bool true]++D d 16 19))))))) (fun L=>[]) hp8 ⟨
  oM,fun h=>⟨ob_len (p:=(some ⟨q,48,none⟩)) (n:=48) (c:=(c-48)) (fun _=>rfl) h rfl (fun _=>by kernel_rfl) Tryz.underlying45⟩,oJ .i64 .i64 48 0,
  trivial⟩ (fun L8 _ w9 hp9=>?_)
 refine cT ?_
 refine sgsD [.det (.slice (some ⟨q,48,none⟩) 48 (c-48)),.det (.slice (some ⟨q,48,none⟩) 48 (c-48)),.det (.tuple #[FV 0,.int .i64 4]),.det (.tuple #[FV 0,.int .i64 4]),.det (FV 0),.det (.int .i64 4),.alloc (FC 0),.store (.new 6) 0 (FC 0) (FC 0),.det (.int .i64 4)] (nn 9) [0,1,3,7,15,15,0,95,255] (fun L d=>D d 0 4++([L0.p 0]++(D d 5 3++([.int .i64 4]++D d 9 26)))) (fun L=>[(L.b 6,FC 0)]) hp9 ⟨
  oM,oSS (len:=48) (n:=48) Tryz.underlying45 sizeY (by have:=lb;omega),oCS (fun L=>#[.slice (some ⟨q,48,none⟩) 48 (c-48)]) (fun L w hs=>fpTakeBig K (fun j=>g (48+j)) _ _ w (K.stay hg hs.bel) (by have:=lb;omega) (by have:=mb;omega) (atq 48 (fun j hj=>cell_up (hq _ (by omega)) hs.bel)) (fun j hj=>rf (48+j) (by omega)) ha1),
  oM,oX,oX,oZ rF,oT rF,oA,
  trivial⟩ (fun L9 _ w10 hp10=>?_)
 refine wp_seq_k (fun K16 k16=>?_)
 refine sgsD [.det (.int .i64 4),.det (.bool true)] [0,1] [0,1] (fun L d=>D d 0 4++([L0.p 0]++(D d 5 3++([.int .i64 4]++(D d 9 14++([.bool true]++D d 24 11)))))) (fun L=>[(L9.b 6,FC 0)]) hp10 ⟨
  oM,oJ .i64 .i64 4 0 (h:=fun w=>(neqI _ _ _ _ w).trans rfl),
  trivial⟩ (fun L10 _ w11 hp11=>?_)
 refine cT ?_
 refine wp_seq_k (fun K18 k18=>?_)
 have hpU:=Heap.later hH1 hp11.bel
 refine gsD [.det (TXV ⟨false,false,.slice none 0 0⟩),.det (.int .i64 4),.store (.base 0) 0 (TXC ⟨false,false,.slice none 0 0⟩) (TXC ⟨false,false,.slice none 0 0⟩),.det (.int .i64 4)] [0,1,2,3] [0,0,1,7] (fun L d=>D d 0 4++([L0.p 0,.int .i64 4]++D d 6 29)) (fun L=>[(L0.b 0,TXC ⟨false,false,.slice none 0 0⟩),(L1.b 4,TXC ⟨false,gr,.slice (some ⟨kb0,0,none⟩) 1 cb0⟩)]) hpU ⟨
  oD buildXn,oM,oT rTX,oA,
  trivial⟩ (fun L11 _ w12 hp12=>?_)
 refine k18 _ _ ?_
 refine wp_ret ?_
 refine k12 _ _ _ ?_
 refine bodyPost_ret (v:=.tuple #[TXV ⟨false,false,.slice none 0 0⟩,.int .i64 4]) ?_ rfl ?_
 ·exact rct rTX rfl (by kernel_rfl) (by kernel_rfl) (hp12.bound 0 rfl).2
 ·exact ⟨rfl,hp12.bel⟩
end Go.Proofs.YtmibajbpimcfnaaGreatDoor.fpn
/- What a text says. -/
namespace Go.Proofs.YtmibajbpimcfnaaGreatDoor.fpn
open Go.RowKit Pl EC
theorem gtrIp (t:TypeId) (a b:Int) (w:World):(binOp .gtr t (.int .i64 a) (.int .i64 b)).run Tryz.prog w=.ok (.bool (decide (b<a))) w:=by simp [binOp,Sem.run_bind,Op.intCmp]
theorem cell0 {w:World} {q off N:Nat} {g:Nat→Int} (h0:0<N) (h:AtK .u8 w (some ⟨q,off,none⟩) N g):w.cell? ⟨q,off+0*1,none⟩=some (.int .u8 (g 0)):=by
 obtain ⟨b,o,e,hc⟩:=h h0
 cases e
 exact hc 0 h0
theorem box_cell {w:World} {k n:Nat} {f:Nat→Int} (h:Box w k (BC f n)):∀ j,j<n→w.cell? ⟨k,j,none⟩=some (.int .u8 (f j)):=fun j hj=>by
 have:=h.cells j _ (BC_at hj)
 rwa [Nat.zero_add] at this
theorem and_at:∀ a:Fin 256,bits .and .u8 ((a:Nat):Int) 224=((a:Nat):Int) / 32*32∧bits .andNot .u8 ((a:Nat):Int) 224=((a:Nat):Int)%32∧bits .and .u8 (((a:Nat):Int) / 32*32) 128=(if ((a:Nat):Int) / 32<4 then 0 else 128)∧bits .and .u8 (((a:Nat):Int) / 32*32) 64=(if ((a:Nat):Int) / 32%4<2 then 0 else 64)∧bits .and .u8 (((a:Nat):Int) / 32*32) 32=(if ((a:Nat):Int) / 32%2=0 then 0 else 32):=of_decide_eq_true (by kernel_rfl)
theorem and_all {a:Int} (r0:0≤a) (r1:a<256):bits .and .u8 a 224=a / 32*32∧bits .andNot .u8 a 224=a%32∧bits .and .u8 (a / 32*32) 128=(if a / 32<4 then 0 else 128)∧bits .and .u8 (a / 32*32) 64=(if a / 32%4<2 then 0 else 64)∧bits .and .u8 (a / 32*32) 32=(if a / 32%2=0 then 0 else 32):=by
 obtain ⟨n,rfl⟩:=Int.eq_ofNat_of_zero_le r0
 exact and_at ⟨n,by omega⟩
theorem and224 {a:Int} (r0:0≤a) (r1:a<256):bits .and .u8 a 224=a / 32*32:=(and_all r0 r1).1
theorem andn224 {a:Int} (r0:0≤a) (r1:a<256):bits .andNot .u8 a 224=a%32:=(and_all r0 r1).2.1
theorem and128f {a:Int} (r0:0≤a) (r1:a<256) (h:a / 32<4):bits .and .u8 (a / 32*32) 128=0:=(and_all r0 r1).2.2.1.trans (if_pos h)
theorem and128t {a:Int} (r0:0≤a) (r1:a<256) (h:¬ a / 32<4):bits .and .u8 (a / 32*32) 128=128:=(and_all r0 r1).2.2.1.trans (if_neg h)
theorem and64t {a:Int} (r0:0≤a) (r1:a<256) (h:6≤a / 32):bits .and .u8 (a / 32*32) 64=64:=(and_all r0 r1).2.2.2.1.trans (if_neg (by omega))
theorem and64f {a:Int} (r0:0≤a) (r1:a<256) (h:¬ a / 32<4) (h6:¬ 6≤a / 32):bits .and .u8 (a / 32*32) 64=0:=(and_all r0 r1).2.2.2.1.trans (if_pos (by omega))
theorem and32t {a:Int} (r0:0≤a) (r1:a<256) (h:a / 32=7):bits .and .u8 (a / 32*32) 32=32:=(and_all r0 r1).2.2.2.2.trans (if_neg (by omega))
theorem and32s {a:Int} (r0:0≤a) (r1:a<256) (h6:6≤a / 32) (h:¬ a / 32=7):bits .and .u8 (a / 32*32) 32=0:=(and_all r0 r1).2.2.2.2.trans (if_pos (by omega))
theorem and32p {a:Int} (r0:0≤a) (r1:a<256) (h:¬ a / 32<4) (h6:¬ 6≤a / 32):(!decide (bits .and .u8 (a / 32*32) 32=0))=decide (a / 32=5):=by
 rw [(and_all r0 r1).2.2.2.2]
 by_cases h5:a / 32=5
 ·rw [if_neg (by omega),decide_eq_true h5];rfl
 ·rw [if_pos (by omega),decide_eq_false h5];rfl
theorem cloneN (N q off c:Nat) (g:Nat→Int) (h0:0<N) (hN:N≤1000) (w:World) (hb:AtK .u8 w (some ⟨q,off,none⟩) N g):Calls Tryz.prog 83 #[.slice (some ⟨q,off,none⟩) N c] w (RetB g N w):=by
 have fin0:BC g N=BC (g) N:=by subst_vars;rfl
 have hp0:=Heap.start w
 go_enter Tryz.func83,Tryz.ntmps83
 refine sgsD [.det (.slice none 0 0)] [0] [0] (fun L d=>[.slice (some ⟨q,off,none⟩) N c]++D d 1 7) (fun L=>[]) hp0 ⟨
  oA,
  trivial⟩ (fun L0 d0 w1 hp1=>?_)
 refine wp_seq_k (fun K2 k2=>?_)
 refine sgsD [.det (.slice (some ⟨q,off,none⟩) N c),.det (.bool false)] [0,1] [0,1] (fun L d=>[.slice (some ⟨q,off,none⟩) N c]++(D d 1 3++([.bool false]++D d 5 3))) (fun L=>[]) hp1 ⟨
  oM,oW (u:=.slice (some ⟨q,off,none⟩) N c) (v:=.slice none 0 0) (r:=.bool false) (fun w=>guardN _ _ _ _ _ _ w) (fun w=>eqlN _ _ _ w),
  trivial⟩ (fun L1 d1 w2 hp2=>?_)
 refine cfk (k2 _ _ ?_)
 refine wp_seq_k (fun K4 k4=>?_)
 refine gsA [.any isE,.det (.slice (some ⟨q,off,none⟩) N c),.any (isB w.heap.size [] g N),.detV 2 (fun v=>v)] [0,1,2,3] [0,0,3,7] (fun L=>[.slice (some ⟨q,off,none⟩) N c,d1 1,L.v 2,d1 3,.bool false,L.v 0,.slice (some ⟨q,off,none⟩) N c,L.v 2]) (fun L=>[]) hp2 ⟨
  oE0,oM,oApE (n:=N) (c:=c) [] 0 h0 hN hb,oAV,
  trivial⟩ (fun L2 w3 hp3 ha3=>?_)
 obtain ⟨kb2b2,cb2b2,eb2b2,lb2b2,mb2b2,qb2b2,ub2b2,xb2b2⟩:=AnyF.at ha3 (j:=2) rfl rfl
 rw [eb2b2]
 have hp32b2:=Heap.add hp3 qb2b2 ub2b2 xb2b2
 refine k4 _ _ ?_
 refine wp_ret ?_
 refine bodyPost_ret (v:=.slice (some ⟨kb2b2,0,none⟩) N cb2b2) ?_ rfl ?_
 ·exact res_t rfl (by kernel_rfl) _
 ·exact ⟨_,rfl,⟨kb2b2,cb2b2,rfl,lb2b2,mb2b2,qb2b2,(fun b hb=>by cases hb),box_eq fin0 (hp32b2.bound 0 rfl).2⟩,hp32b2.bel⟩
theorem readShort (p:Option Addr) (n c N:Nat) (w:World) (hn:n<N):Calls Tryz.prog 54 #[.slice p n c,.int .i64 N] w (Ret (.tuple #[TXV ⟨false,false,.slice none 0 0⟩,.int .i64 2]) w):=by
 have hp0:=Heap.start w
 go_enter Tryz.func54,Tryz.ntmps54
 refine sgsD [.alloc (TXC ⟨false,false,.slice none 0 0⟩),.det (.int .i64 0)] [0,1] [0,0] (fun L d=>[.slice p n c,.int .i64 N,undef,undef,L.p 0,d 5]++U 40) (fun L=>[(L.b 0,TXC ⟨false,false,.slice none 0 0⟩)]) hp0 ⟨
  oZ rTX,oA,
  trivial⟩ (fun L0 _ w1 hp1=>?_)
 refine wp_seq_k (fun K2 k2=>?_)
 refine sgsD [.det (.slice p n c),.det (.int .i64 n),.det (.int .i64 N),.det (.bool true)] [0,1,2,3] [0,1,0,7] (fun L d=>D d 0 4++([L0.p 0]++(D d 5 6++([.bool true]++D d 12 34)))) (fun L=>[(L0.b 0,TXC ⟨false,false,.slice none 0 0⟩)]) hp1 ⟨
  oM,fun h=>⟨ob_len (p:=p) (n:=n) (c:=c) (fun _=>rfl) h rfl (fun _=>by kernel_rfl) Tryz.underlying45⟩,oM,oJ .i64 .i64 n N (h:=fun w=>(lssI _ _ _ w).trans (by rw [decide_eq_true (by omega)])),
  trivial⟩ (fun L1 _ w2 hp2=>?_)
 refine cT ?_
 refine sgsD [.det (TXV ⟨false,false,.slice none 0 0⟩),.store (.base 0) 0 (TXC ⟨false,false,.slice none 0 0⟩) (TXC ⟨false,false,.slice none 0 0⟩),.det (.int .i64 2)] [0,1,2] [0,1,3] (fun L d=>D d 0 4++([L0.p 0,.int .i64 2]++D d 6 40)) (fun L=>[(L0.b 0,TXC ⟨false,false,.slice none 0 0⟩)]) hp2 ⟨
  oD buildXn,oT rTX,oA,
  trivial⟩ (fun L2 _ w3 hp3=>?_)
 refine wp_ret ?_
 refine bodyPost_ret (v:=.tuple #[TXV ⟨false,false,.slice none 0 0⟩,.int .i64 2]) ?_ rfl ?_
 ·exact rct rTX rfl (by kernel_rfl) (by kernel_rfl) (hp3.bound 0 rfl).2
 ·exact ⟨rfl,hp3.bel⟩
theorem readLong (p:Option Addr) (n c N:Nat) (w:World) (hn:N<n):Calls Tryz.prog 54 #[.slice p n c,.int .i64 N] w (Ret (.tuple #[TXV ⟨false,false,.slice none 0 0⟩,.int .i64 8]) w):=by
 have hp0:=Heap.start w
 go_enter Tryz.func54,Tryz.ntmps54
 refine sgsD [.alloc (TXC ⟨false,false,.slice none 0 0⟩),.det (.int .i64 0)] [0,1] [0,0] (fun L d=>[.slice p n c,.int .i64 N,undef,undef,L.p 0,d 5]++U 40) (fun L=>[(L.b 0,TXC ⟨false,false,.slice none 0 0⟩)]) hp0 ⟨
  oZ rTX,oA,
  trivial⟩ (fun L0 _ w1 hp1=>?_)
 refine wp_seq_k (fun K2 k2=>?_)
 refine sgsD [.det (.slice p n c),.det (.int .i64 n),.det (.int .i64 N),.det (.bool false)] [0,1,2,3] [0,1,0,7] (fun L d=>[.slice p n c,.int .i64 N]++(D d 2 2++([L0.p 0]++(D d 5 6++([.bool false]++D d 12 34))))) (fun L=>[(L0.b 0,TXC ⟨false,false,.slice none 0 0⟩)]) hp1 ⟨
  oM,fun h=>⟨ob_len (p:=p) (n:=n) (c:=c) (fun _=>rfl) h rfl (fun _=>by kernel_rfl) Tryz.underlying45⟩,oM,oJ .i64 .i64 n N (h:=fun w=>(lssI _ _ _ w).trans (by rw [decide_eq_false (by omega)])),
  trivial⟩ (fun L1 _ w2 hp2=>?_)
 refine cfk (k2 _ _ ?_)
 refine wp_seq_k (fun K4 k4=>?_)
 refine sgsD [.det (.slice p n c),.det (.int .i64 n),.det (.int .i64 N),.det (.bool true)] [0,1,2,3] [0,1,0,7] (fun L d=>D d 0 4++([L0.p 0]++(D d 5 11++([.bool true]++D d 17 29)))) (fun L=>[(L0.b 0,TXC ⟨false,false,.slice none 0 0⟩)]) hp2 ⟨
  oM,fun h=>⟨ob_len (p:=p) (n:=n) (c:=c) (fun _=>rfl) h rfl (fun _=>by kernel_rfl) Tryz.underlying45⟩,oM,oJ .i64 .i64 n N (h:=fun w=>(gtrIp _ _ _ w).trans (by rw [decide_eq_true (by omega)])),
  trivial⟩ (fun L2 _ w3 hp3=>?_)
 refine cT ?_
 refine sgsD [.det (TXV ⟨false,false,.slice none 0 0⟩),.store (.base 0) 0 (TXC ⟨false,false,.slice none 0 0⟩) (TXC ⟨false,false,.slice none 0 0⟩),.det (.int .i64 8)] [0,1,2] [0,1,3] (fun L d=>D d 0 4++([L0.p 0,.int .i64 8]++D d 6 40)) (fun L=>[(L0.b 0,TXC ⟨false,false,.slice none 0 0⟩)]) hp3 ⟨
  oD buildXn,oT rTX,oA,
  trivial⟩ (fun L3 _ w4 hp4=>?_)
 refine wp_ret ?_
 refine bodyPost_ret (v:=.tuple #[TXV ⟨false,false,.slice none 0 0⟩,.int .i64 8]) ?_ rfl ?_
 ·exact rct rTX rfl (by kernel_rfl) (by kernel_rfl) (hp4.bound 0 rfl).2
 ·exact ⟨rfl,hp4.bel⟩
theorem readLow (N q off c:Nat) (g:Nat→Int) (h0:0<N) (hN:N≤1000) (w:World) (hb:AtK .u8 w (some ⟨q,off,none⟩) N g) (r0:0≤g 0) (r1:g 0<256) (hl:g 0 / 32<4):Calls Tryz.prog 54 #[.slice (some ⟨q,off,none⟩) N c,.int .i64 N] w (Ret (.tuple #[TXV ⟨false,false,.slice none 0 0⟩,.int .i64 3]) w):=by
 have hp0:=Heap.start w
 go_enter Tryz.func54,Tryz.ntmps54
 refine sgsD [.alloc (TXC ⟨false,false,.slice none 0 0⟩),.det (.int .i64 0)] [0,1] [0,0] (fun L d=>[.slice (some ⟨q,off,none⟩) N c,.int .i64 N,undef,undef,L.p 0,d 5]++U 40) (fun L=>[(L.b 0,TXC ⟨false,false,.slice none 0 0⟩)]) hp0 ⟨
  oZ rTX,oA,
  trivial⟩ (fun L0 _ w1 hp1=>?_)
 refine wp_seq_k (fun K2 k2=>?_)
 refine sgsD [.det (.slice (some ⟨q,off,none⟩) N c),.det (.int .i64 N),.det (.int .i64 N),.det (.bool false)] [0,1,2,3] [0,1,0,7] (fun L d=>[.slice (some ⟨q,off,none⟩) N c,.int .i64 N]++(D d 2 2++([L0.p 0]++(D d 5 6++([.bool false]++D d 12 34))))) (fun L=>[(L0.b 0,TXC ⟨false,false,.slice none 0 0⟩)]) hp1 ⟨
  oM,fun h=>⟨ob_len (p:=(some ⟨q,off,none⟩)) (n:=N) (c:=c) (fun _=>rfl) h rfl (fun _=>by kernel_rfl) Tryz.underlying45⟩,oM,oJ .i64 .i64 N N (h:=fun w=>(lssI _ _ _ w).trans (by rw [decide_eq_false (by omega)])),
  trivial⟩ (fun L1 _ w2 hp2=>?_)
 refine cfk (k2 _ _ ?_)
 refine wp_seq_k (fun K4 k4=>?_)
 refine sgsD [.det (.slice (some ⟨q,off,none⟩) N c),.det (.int .i64 N),.det (.int .i64 N),.det (.bool false)] [0,1,2,3] [0,1,0,7] (fun L d=>[.slice (some ⟨q,off,none⟩) N c]++(D d 1 3++([L0.p 0]++(D d 5 11++([.bool false]++D d 17 29))))) (fun L=>[(L0.b 0,TXC ⟨false,false,.slice none 0 0⟩)]) hp2 ⟨
  oM,fun h=>⟨ob_len (p:=(some ⟨q,off,none⟩)) (n:=N) (c:=c) (fun _=>rfl) h rfl (fun _=>by kernel_rfl) Tryz.underlying45⟩,oM,oJ .i64 .i64 N N (h:=fun w=>(gtrIp _ _ _ w).trans (by rw [decide_eq_false (by omega)])),
  trivial⟩ (fun L2 _ w3 hp3=>?_)
 refine cfk (k4 _ _ ?_)
 refine sgsD [.det (.slice (some ⟨q,off,none⟩) N c),.det (.pointer (some ⟨q,off+0*1,none⟩)),.det (.int .u8 (g 0)),.det (.int .u8 (g 0 / 32*32)),.det (.int .u8 (g 0 / 32*32))] (nn 5) [0,1,3,7,15] (fun L d=>[.slice (some ⟨q,off,none⟩) N c]++(D d 1 3++([L0.p 0,d 5,.int .u8 (g 0 / 32*32)]++D d 7 39))) (fun L=>[(L0.b 0,TXC ⟨false,false,.slice none 0 0⟩)]) hp3 ⟨
  oM,oIS (n:=N) (c:=c) 0 Tryz.underlying45 sizeY h0,oLC oneY (fun L w hs=>cell0 h0 (AtK.below hb hs.bel)),oJ .u8 .u8 (g 0) 224 (h:=fun w=>andY _ _ _ _ (and224 r0 r1) w),
  oA,
  trivial⟩ (fun L3 d3 w4 hp4=>?_)
 refine wp_seq_k (fun K7 k7=>?_)
 refine gsA [.det (.slice (some ⟨q,off,none⟩) N c),.any (isB w.heap.size [L0.b 0] g N),.detV 1 (fun v=>v)] [0,1,2] [0,1,3] (fun L=>[.slice (some ⟨q,off,none⟩) N c]++(D d3 1 3++([L0.p 0,d3 5,.int .u8 (g 0 / 32*32),L.v 1]++(D d3 8 14++([.slice (some ⟨q,off,none⟩) N c,L.v 1]++D d3 24 22))))) (fun L=>[(L0.b 0,TXC ⟨false,false,.slice none 0 0⟩)]) hp4 ⟨
  oM,oY (fun L=>#[.slice (some ⟨q,off,none⟩) N c]) (fun _ _ _ h hb=>h.stay hb) (fun L w hs=>newB hs [L0.b 0] (cloneN N q off c g h0 hN w (AtK.below hb hs.bel))),
  oAV,
  trivial⟩ (fun L4 w5 hp5 ha5=>?_)
 obtain ⟨kb4b1,cb4b1,eb4b1,lb4b1,mb4b1,qb4b1,ub4b1,xb4b1⟩:=AnyF.at ha5 (j:=1) rfl rfl
 rw [eb4b1]
 have hp54b1:=Heap.add hp5 qb4b1 ub4b1 xb4b1
 refine k7 _ _ ?_
 refine sgsD [.det (.slice (some ⟨kb4b1,0,none⟩) N cb4b1),.det (.pointer (some ⟨kb4b1,0+0*1,none⟩)),.det (.int .u8 (g 0)),.det (.int .u8 (g 0%32)),.det (.pointer (some ⟨kb4b1,0+0*1,none⟩)),.store (.base 1) (0+0*1) ([.int .u8 (g 0%32)]) (BC (su g 0 (g 0%32)) N)] (nn 6) [0,1,3,7,15,31] (fun L d=>D d 0 4++([L0.p 0,d 5,.int .u8 (g 0 / 32*32)]++D d 7 39)) (fun L=>[(L0.b 0,TXC ⟨false,false,.slice none 0 0⟩),(kb4b1,BC (su g 0 (g 0%32)) N)]) hp54b1 ⟨
  oM,oIS (n:=N) (c:=cb4b1) 0 Tryz.underlying45 sizeY h0,oLY 1 h0,oJ .u8 .u8 (g 0) 224 (h:=fun w=>andnY _ _ _ _ (andn224 r0 r1) w),oIS (n:=N) (c:=cb4b1) 0 Tryz.underlying45 sizeY h0,
  oTY (j:=0) h0,
  trivial⟩ (fun L5 _ w6 hp6=>?_)
 refine wp_seq_k (fun K9 k9=>?_)
 refine sgsD [.det (.int .u8 (g 0 / 32*32)),.det (.int .u8 0),.det (.bool true)] [0,1,2] [0,1,3] (fun L d=>D d 0 4++([L0.p 0]++(D d 5 26++([.bool true]++D d 32 14)))) (fun L=>[(L0.b 0,TXC ⟨false,false,.slice none 0 0⟩),(kb4b1,BC (su g 0 (g 0%32)) N)]) hp6 ⟨
  oM,oJ .u8 .u8 (g 0 / 32*32) 128 (h:=fun w=>andY _ _ _ _ (and128f r0 r1 hl) w),oJ .u8 .u8 0 0 (h:=fun w=>(eqlI _ _ _ _ w).trans rfl),
  trivial⟩ (fun L6 _ w7 hp7=>?_)
 refine cT ?_
 refine sgsD [.det (TXV ⟨false,false,.slice none 0 0⟩),.store (.base 0) 0 (TXC ⟨false,false,.slice none 0 0⟩) (TXC ⟨false,false,.slice none 0 0⟩),.det (.int .i64 3)] [0,1,2] [0,1,3] (fun L d=>D d 0 4++([L0.p 0,.int .i64 3]++D d 6 40)) (fun L=>[(L0.b 0,TXC ⟨false,false,.slice none 0 0⟩),(kb4b1,BC (su g 0 (g 0%32)) N)]) hp7 ⟨
  oD buildXn,oT rTX,oA,
  trivial⟩ (fun L7 _ w8 hp8=>?_)
 refine wp_ret ?_
 refine bodyPost_ret (v:=.tuple #[TXV ⟨false,false,.slice none 0 0⟩,.int .i64 3]) ?_ rfl ?_
 ·exact rct rTX rfl (by kernel_rfl) (by kernel_rfl) (hp8.bound 0 rfl).2
 ·exact ⟨rfl,hp8.bel⟩
theorem readInf_ (N q off c:Nat) (g:Nat→Int) (ti:Bool) (e:Int) (h0:0<N) (hN:N≤1000) (w:World) (hb:AtK .u8 w (some ⟨q,off,none⟩) N g) (r0:0≤g 0) (r1:g 0<256) (hl:¬ g 0 / 32<4) (h6:6≤g 0 / 32) (hI:∀ k c (w:World),N≤c→(∀ j,j<N→w.cell? ⟨k,j,none⟩=some (.int .u8 ((su g 0 (g 0%32)) j)))→Calls Tryz.prog 84 #[.int .u8 (g 0 / 32*32),.slice (some ⟨k,0,none⟩) N c] w (Ret (.tuple #[TXV ⟨ti,false,.slice none 0 0⟩,.int .i64 e]) w)):Calls Tryz.prog 54 #[.slice (some ⟨q,off,none⟩) N c,.int .i64 N] w (Ret (.tuple #[TXV ⟨ti,false,.slice none 0 0⟩,.int .i64 e]) w):=by
 have hp0:=Heap.start w
 go_enter Tryz.func54,Tryz.ntmps54
 refine sgsD [.alloc (TXC ⟨false,false,.slice none 0 0⟩),.det (.int .i64 0)] [0,1] [0,0] (fun L d=>[.slice (some ⟨q,off,none⟩) N c,.int .i64 N,undef,undef,L.p 0,d 5]++U 40) (fun L=>[(L.b 0,TXC ⟨false,false,.slice none 0 0⟩)]) hp0 ⟨
  oZ rTX,oA,
  trivial⟩ (fun L0 _ w1 hp1=>?_)
 refine wp_seq_k (fun K2 k2=>?_)
 refine sgsD [.det (.slice (some ⟨q,off,none⟩) N c),.det (.int .i64 N),.det (.int .i64 N),.det (.bool false)] [0,1,2,3] [0,1,0,7] (fun L d=>[.slice (some ⟨q,off,none⟩) N c,.int .i64 N]++(D d 2 2++([L0.p 0]++(D d 5 6++([.bool false]++D d 12 34))))) (fun L=>[(L0.b 0,TXC ⟨false,false,.slice none 0 0⟩)]) hp1 ⟨
  oM,fun h=>⟨ob_len (p:=(some ⟨q,off,none⟩)) (n:=N) (c:=c) (fun _=>rfl) h rfl (fun _=>by kernel_rfl) Tryz.underlying45⟩,oM,oJ .i64 .i64 N N (h:=fun w=>(lssI _ _ _ w).trans (by rw [decide_eq_false (by omega)])),
  trivial⟩ (fun L1 _ w2 hp2=>?_)
 refine cfk (k2 _ _ ?_)
 refine wp_seq_k (fun K4 k4=>?_)
 refine sgsD [.det (.slice (some ⟨q,off,none⟩) N c),.det (.int .i64 N),.det (.int .i64 N),.det (.bool false)] [0,1,2,3] [0,1,0,7] (fun L d=>[.slice (some ⟨q,off,none⟩) N c]++(D d 1 3++([L0.p 0]++(D d 5 11++([.bool false]++D d 17 29))))) (fun L=>[(L0.b 0,TXC ⟨false,false,.slice none 0 0⟩)]) hp2 ⟨
  oM,fun h=>⟨ob_len (p:=(some ⟨q,off,none⟩)) (n:=N) (c:=c) (fun _=>rfl) h rfl (fun _=>by kernel_rfl) Tryz.underlying45⟩,oM,oJ .i64 .i64 N N (h:=fun w=>(gtrIp _ _ _ w).trans (by rw [decide_eq_false (by omega)])),
  trivial⟩ (fun L2 _ w3 hp3=>?_)
 refine cfk (k4 _ _ ?_)
 refine sgsD [.det (.slice (some ⟨q,off,none⟩) N c),.det (.pointer (some ⟨q,off+0*1,none⟩)),.det (.int .u8 (g 0)),.det (.int .u8 (g 0 / 32*32)),.det (.int .u8 (g 0 / 32*32))] (nn 5) [0,1,3,7,15] (fun L d=>[.slice (some ⟨q,off,none⟩) N c]++(D d 1 3++([L0.p 0,d 5,.int .u8 (g 0 / 32*32)]++D d 7 39))) (fun L=>[(L0.b 0,TXC ⟨false,false,.slice none 0 0⟩)]) hp3 ⟨
  oM,oIS (n:=N) (c:=c) 0 Tryz.underlying45 sizeY h0,oLC oneY (fun L w hs=>cell0 h0 (AtK.below hb hs.bel)),oJ .u8 .u8 (g 0) 224 (h:=fun w=>andY _ _ _ _ (and224 r0 r1) w),
  oA,
  trivial⟩ (fun L3 d3 w4 hp4=>?_)
 refine wp_seq_k (fun K7 k7=>?_)
 refine gsA [.det (.slice (some ⟨q,off,none⟩) N c),.any (isB w.heap.size [L0.b 0] g N),.detV 1 (fun v=>v)] [0,1,2] [0,1,3] (fun L=>[.slice (some ⟨q,off,none⟩) N c]++(D d3 1 3++([L0.p 0,d3 5,.int .u8 (g 0 / 32*32),L.v 1]++(D d3 8 14++([.slice (some ⟨q,off,none⟩) N c,L.v 1]++D d3 24 22))))) (fun L=>[(L0.b 0,TXC ⟨false,false,.slice none 0 0⟩)]) hp4 ⟨
  oM,oY (fun L=>#[.slice (some ⟨q,off,none⟩) N c]) (fun _ _ _ h hb=>h.stay hb) (fun L w hs=>newB hs [L0.b 0] (cloneN N q off c g h0 hN w (AtK.below hb hs.bel))),
  oAV,
  trivial⟩ (fun L4 w5 hp5 ha5=>?_)
 obtain ⟨kb4b1,cb4b1,eb4b1,lb4b1,mb4b1,qb4b1,ub4b1,xb4b1⟩:=AnyF.at ha5 (j:=1) rfl rfl
 rw [eb4b1]
 have hp54b1:=Heap.add hp5 qb4b1 ub4b1 xb4b1
 refine k7 _ _ ?_
 refine sgsD [.det (.slice (some ⟨kb4b1,0,none⟩) N cb4b1),.det (.pointer (some ⟨kb4b1,0+0*1,none⟩)),.det (.int .u8 (g 0)),.det (.int .u8 (g 0%32)),.det (.pointer (some ⟨kb4b1,0+0*1,none⟩)),.store (.base 1) (0+0*1) ([.int .u8 (g 0%32)]) (BC (su g 0 (g 0%32)) N)] (nn 6) [0,1,3,7,15,31] (fun L d=>D d 0 4++([L0.p 0,d 5,.int .u8 (g 0 / 32*32),.slice (some ⟨kb4b1,0,none⟩) N cb4b1]++D d 8 38)) (fun L=>[(L0.b 0,TXC ⟨false,false,.slice none 0 0⟩),(kb4b1,BC (su g 0 (g 0%32)) N)]) hp54b1 ⟨
  oM,oIS (n:=N) (c:=cb4b1) 0 Tryz.underlying45 sizeY h0,oLY 1 h0,oJ .u8 .u8 (g 0) 224 (h:=fun w=>andnY _ _ _ _ (andn224 r0 r1) w),oIS (n:=N) (c:=cb4b1) 0 Tryz.underlying45 sizeY h0,
  oTY (j:=0) h0,
  trivial⟩ (fun L5 _ w6 hp6=>?_)
 refine wp_seq_k (fun K9 k9=>?_)
 refine sgsD [.det (.int .u8 (g 0 / 32*32)),.det (.int .u8 128),.det (.bool false)] [0,1,2] [0,1,3] (fun L d=>D d 0 4++([L0.p 0,d 5,.int .u8 (g 0 / 32*32),.slice (some ⟨kb4b1,0,none⟩) N cb4b1]++(D d 8 23++([.bool false]++D d 32 14)))) (fun L=>[(L0.b 0,TXC ⟨false,false,.slice none 0 0⟩),(kb4b1,BC (su g 0 (g 0%32)) N)]) hp6 ⟨
  oM,oJ .u8 .u8 (g 0 / 32*32) 128 (h:=fun w=>andY _ _ _ _ (and128t r0 r1 hl) w),oJ .u8 .u8 128 0 (h:=fun w=>(eqlI _ _ _ _ w).trans rfl),
  trivial⟩ (fun L6 _ w7 hp7=>?_)
 refine cfk (k9 _ _ ?_)
 refine wp_seq_k (fun K11 k11=>?_)
 refine sgsD [.det (.int .u8 (g 0 / 32*32)),.det (.int .u8 64),.det (.bool true)] [0,1,2] [0,1,3] (fun L d=>D d 0 4++([L0.p 0,d 5,.int .u8 (g 0 / 32*32),.slice (some ⟨kb4b1,0,none⟩) N cb4b1]++(D d 8 27++([.bool true]++D d 36 10)))) (fun L=>[(L0.b 0,TXC ⟨false,false,.slice none 0 0⟩),(kb4b1,BC (su g 0 (g 0%32)) N)]) hp7 ⟨
  oM,oJ .u8 .u8 (g 0 / 32*32) 64 (h:=fun w=>andY _ _ _ _ (and64t r0 r1 h6) w),oJ .u8 .u8 64 0 (h:=fun w=>(neqI _ _ _ _ w).trans rfl),
  trivial⟩ (fun L7 _ w8 hp8=>?_)
 refine cT ?_
 refine sgsD [.det (.int .u8 (g 0 / 32*32)),.det (.slice (some ⟨kb4b1,0,none⟩) N cb4b1),.det (.tuple #[TXV ⟨ti,false,.slice none 0 0⟩,.int .i64 e]),.det (TXV ⟨ti,false,.slice none 0 0⟩),.det (.int .i64 e),.store (.base 0) 0 (TXC ⟨ti,false,.slice none 0 0⟩) (TXC ⟨ti,false,.slice none 0 0⟩),.det (.int .i64 e)] (nn 7) [0,0,3,7,7,31,63] (fun L d=>D d 0 4++([L0.p 0,.int .i64 e]++D d 6 40)) (fun L=>[(L0.b 0,TXC ⟨ti,false,.slice none 0 0⟩),(kb4b1,BC (su g 0 (g 0%32)) N)]) hp8 ⟨
  oM,oM,oCS (fun L=>#[.int .u8 (g 0 / 32*32),.slice (some ⟨kb4b1,0,none⟩) N cb4b1]) (fun L w hs=>hI _ _ w lb4b1 (box_cell (seen_at hs (k:=1) rfl))),
  oX,oX,oT rTX,oA,
  trivial⟩ (fun L8 _ w9 hp9=>?_)
 refine wp_ret ?_
 refine bodyPost_ret (v:=.tuple #[TXV ⟨ti,false,.slice none 0 0⟩,.int .i64 e]) ?_ rfl ?_
 ·exact rct rTX rfl (by kernel_rfl) (by kernel_rfl) (hp9.bound 0 rfl).2
 ·exact ⟨rfl,hp9.bel⟩
theorem readBig (N q off c:Nat) (g:Nat→Int) (ti:Bool) (e:Int) {G:World→Prop} (st:∀ {w x:World},G w→Below w.heap.size w x→G x) (h0:0<N) (hN:N≤1000) (w:World) (hb:AtK .u8 w (some ⟨q,off,none⟩) N g) (r0:0≤g 0) (r1:g 0<256) (hl:¬ g 0 / 32<4) (h6:¬ 6≤g 0 / 32) (hg:G w) (hI:∀ k c (w:World),G w→N≤c→c≤9223372036854775807→(∀ j,j<N→w.cell? ⟨k,j,none⟩=some (.int .u8 ((su g 0 (g 0%32)) j)))→Calls Tryz.prog 85 #[.int .u8 (g 0 / 32*32),.slice (some ⟨k,0,none⟩) N c] w (Ret (.tuple #[TXV ⟨ti,false,.slice none 0 0⟩,.int .i64 e]) w)):Calls Tryz.prog 54 #[.slice (some ⟨q,off,none⟩) N c,.int .i64 N] w (Ret (.tuple #[TXV ⟨ti,false,.slice none 0 0⟩,.int .i64 e]) w):=by
 have hp0:=Heap.start w
 go_enter Tryz.func54,Tryz.ntmps54
 refine sgsD [.alloc (TXC ⟨false,false,.slice none 0 0⟩),.det (.int .i64 0)] [0,1] [0,0] (fun L d=>[.slice (some ⟨q,off,none⟩) N c,.int .i64 N,undef,undef,L.p 0,d 5]++U 40) (fun L=>[(L.b 0,TXC ⟨false,false,.slice none 0 0⟩)]) hp0 ⟨
  oZ rTX,oA,
  trivial⟩ (fun L0 _ w1 hp1=>?_)
 refine wp_seq_k (fun K2 k2=>?_)
 refine sgsD [.det (.slice (some ⟨q,off,none⟩) N c),.det (.int .i64 N),.det (.int .i64 N),.det (.bool false)] [0,1,2,3] [0,1,0,7] (fun L d=>[.slice (some ⟨q,off,none⟩) N c,.int .i64 N]++(D d 2 2++([L0.p 0]++(D d 5 6++([.bool false]++D d 12 34))))) (fun L=>[(L0.b 0,TXC ⟨false,false,.slice none 0 0⟩)]) hp1 ⟨
  oM,fun h=>⟨ob_len (p:=(some ⟨q,off,none⟩)) (n:=N) (c:=c) (fun _=>rfl) h rfl (fun _=>by kernel_rfl) Tryz.underlying45⟩,oM,oJ .i64 .i64 N N (h:=fun w=>(lssI _ _ _ w).trans (by rw [decide_eq_false (by omega)])),
  trivial⟩ (fun L1 _ w2 hp2=>?_)
 refine cfk (k2 _ _ ?_)
 refine wp_seq_k (fun K4 k4=>?_)
 refine sgsD [.det (.slice (some ⟨q,off,none⟩) N c),.det (.int .i64 N),.det (.int .i64 N),.det (.bool false)] [0,1,2,3] [0,1,0,7] (fun L d=>[.slice (some ⟨q,off,none⟩) N c]++(D d 1 3++([L0.p 0]++(D d 5 11++([.bool false]++D d 17 29))))) (fun L=>[(L0.b 0,TXC ⟨false,false,.slice none 0 0⟩)]) hp2 ⟨
  oM,fun h=>⟨ob_len (p:=(some ⟨q,off,none⟩)) (n:=N) (c:=c) (fun _=>rfl) h rfl (fun _=>by kernel_rfl) Tryz.underlying45⟩,oM,oJ .i64 .i64 N N (h:=fun w=>(gtrIp _ _ _ w).trans (by rw [decide_eq_false (by omega)])),
  trivial⟩ (fun L2 _ w3 hp3=>?_)
 refine cfk (k4 _ _ ?_)
 refine sgsD [.det (.slice (some ⟨q,off,none⟩) N c),.det (.pointer (some ⟨q,off+0*1,none⟩)),.det (.int .u8 (g 0)),.det (.int .u8 (g 0 / 32*32)),.det (.int .u8 (g 0 / 32*32))] (nn 5) [0,1,3,7,15] (fun L d=>[.slice (some ⟨q,off,none⟩) N c]++(D d 1 3++([L0.p 0,d 5,.int .u8 (g 0 / 32*32)]++D d 7 39))) (fun L=>[(L0.b 0,TXC ⟨false,false,.slice none 0 0⟩)]) hp3 ⟨
  oM,oIS (n:=N) (c:=c) 0 Tryz.underlying45 sizeY h0,oLC oneY (fun L w hs=>cell0 h0 (AtK.below hb hs.bel)),oJ .u8 .u8 (g 0) 224 (h:=fun w=>andY _ _ _ _ (and224 r0 r1) w),
  oA,
  trivial⟩ (fun L3 d3 w4 hp4=>?_)
 refine wp_seq_k (fun K7 k7=>?_)
 refine gsA [.det (.slice (some ⟨q,off,none⟩) N c),.any (isB w.heap.size [L0.b 0] g N),.detV 1 (fun v=>v)] [0,1,2] [0,1,3] (fun L=>[.slice (some ⟨q,off,none⟩) N c]++(D d3 1 3++([L0.p 0,d3 5,.int .u8 (g 0 / 32*32),L.v 1]++(D d3 8 14++([.slice (some ⟨q,off,none⟩) N c,L.v 1]++D d3 24 22))))) (fun L=>[(L0.b 0,TXC ⟨false,false,.slice none 0 0⟩)]) hp4 ⟨
  oM,oY (fun L=>#[.slice (some ⟨q,off,none⟩) N c]) (fun _ _ _ h hb=>h.stay hb) (fun L w hs=>newB hs [L0.b 0] (cloneN N q off c g h0 hN w (AtK.below hb hs.bel))),
  oAV,
  trivial⟩ (fun L4 w5 hp5 ha5=>?_)
 obtain ⟨kb4b1,cb4b1,eb4b1,lb4b1,mb4b1,qb4b1,ub4b1,xb4b1⟩:=AnyF.at ha5 (j:=1) rfl rfl
 rw [eb4b1]
 have hp54b1:=Heap.add hp5 qb4b1 ub4b1 xb4b1
 refine k7 _ _ ?_
 refine sgsD [.det (.slice (some ⟨kb4b1,0,none⟩) N cb4b1),.det (.pointer (some ⟨kb4b1,0+0*1,none⟩)),.det (.int .u8 (g 0)),.det (.int .u8 (g 0%32)),.det (.pointer (some ⟨kb4b1,0+0*1,none⟩)),.store (.base 1) (0+0*1) ([.int .u8 (g 0%32)]) (BC (su g 0 (g 0%32)) N)] (nn 6) [0,1,3,7,15,31] (fun L d=>D d 0 4++([L0.p 0,d 5,.int .u8 (g 0 / 32*32),.slice (some ⟨kb4b1,0,none⟩) N cb4b1]++D d 8 38)) (fun L=>[(L0.b 0,TXC ⟨false,false,.slice none 0 0⟩),(kb4b1,BC (su g 0 (g 0%32)) N)]) hp54b1 ⟨
  oM,oIS (n:=N) (c:=cb4b1) 0 Tryz.underlying45 sizeY h0,oLY 1 h0,oJ .u8 .u8 (g 0) 224 (h:=fun w=>andnY _ _ _ _ (andn224 r0 r1) w),oIS (n:=N) (c:=cb4b1) 0 Tryz.underlying45 sizeY h0,
  oTY (j:=0) h0,
  trivial⟩ (fun L5 _ w6 hp6=>?_)
 refine wp_seq_k (fun K9 k9=>?_)
 refine sgsD [.det (.int .u8 (g 0 / 32*32)),.det (.int .u8 128),.det (.bool false)] [0,1,2] [0,1,3] (fun L d=>D d 0 4++([L0.p 0,d 5,.int .u8 (g 0 / 32*32),.slice (some ⟨kb4b1,0,none⟩) N cb4b1]++(D d 8 23++([.bool false]++D d 32 14)))) (fun L=>[(L0.b 0,TXC ⟨false,false,.slice none 0 0⟩),(kb4b1,BC (su g 0 (g 0%32)) N)]) hp6 ⟨
  oM,oJ .u8 .u8 (g 0 / 32*32) 128 (h:=fun w=>andY _ _ _ _ (and128t r0 r1 hl) w),oJ .u8 .u8 128 0 (h:=fun w=>(eqlI _ _ _ _ w).trans rfl),
  trivial⟩ (fun L6 _ w7 hp7=>?_)
 refine cfk (k9 _ _ ?_)
 refine wp_seq_k (fun K11 k11=>?_)
 refine sgsD [.det (.int .u8 (g 0 / 32*32)),.det (.int .u8 0),.det (.bool false)] [0,1,2] [0,1,3] (fun L d=>D d 0 4++([L0.p 0,d 5,.int .u8 (g 0 / 32*32),.slice (some ⟨kb4b1,0,none⟩) N cb4b1]++(D d 8 27++([.bool false]++D d 36 10)))) (fun L=>[(L0.b 0,TXC ⟨false,false,.slice none 0 0⟩),(kb4b1,BC (su g 0 (g 0%32)) N)]) hp7 ⟨
  oM,oJ .u8 .u8 (g 0 / 32*32) 64 (h:=fun w=>andY _ _ _ _ (and64f r0 r1 hl h6) w),oJ .u8 .u8 0 0 (h:=fun w=>(neqI _ _ _ _ w).trans rfl),
  trivial⟩ (fun L7 _ w8 hp8=>?_)
 refine cfk (k11 _ _ ?_)
 refine sgsD [.det (.int .u8 (g 0 / 32*32)),.det (.slice (some ⟨kb4b1,0,none⟩) N cb4b1),.det (.tuple #[TXV ⟨ti,false,.slice none 0 0⟩,.int .i64 e]),.det (TXV ⟨ti,false,.slice none 0 0⟩),.det (.int .i64 e),.store (.base 0) 0 (TXC ⟨ti,false,.slice none 0 0⟩) (TXC ⟨ti,false,.slice none 0 0⟩),.det (.int .i64 e)] (nn 7) [0,0,3,7,7,31,63] (fun L d=>D d 0 4++([L0.p 0,.int .i64 e]++D d 6 40)) (fun L=>[(L0.b 0,TXC ⟨ti,false,.slice none 0 0⟩),(kb4b1,BC (su g 0 (g 0%32)) N)]) hp8 ⟨
  oM,oM,oCS (fun L=>#[.int .u8 (g 0 / 32*32),.slice (some ⟨kb4b1,0,none⟩) N cb4b1]) (fun L w hs=>hI _ _ w (st hg hs.bel) lb4b1 mb4b1 (box_cell (seen_at hs (k:=1) rfl))),
  oX,oX,oT rTX,oA,
  trivial⟩ (fun L8 _ w9 hp9=>?_)
 refine wp_ret ?_
 refine bodyPost_ret (v:=.tuple #[TXV ⟨ti,false,.slice none 0 0⟩,.int .i64 e]) ?_ rfl ?_
 ·exact rct rTX rfl (by kernel_rfl) (by kernel_rfl) (hp9.bound 0 rfl).2
 ·exact ⟨rfl,hp9.bel⟩
theorem readOk (N q off c:Nat) (g:Nat→Int) (gr:Bool) (cs:List Value) (n:Nat) {G:World→Prop} (st:∀ {w x:World},G w→Below w.heap.size w x→G x) (h0:0<N) (hN:N≤1000) (w:World) (hb:AtK .u8 w (some ⟨q,off,none⟩) N g) (r0:0≤g 0) (r1:g 0<256) (hl:¬ g 0 / 32<4) (h6:¬ 6≤g 0 / 32) (hg:G w) (hI:∀ k c (w:World),G w→N≤c→c≤9223372036854775807→(∀ j,j<N→w.cell? ⟨k,j,none⟩=some (.int .u8 ((su g 0 (g 0%32)) j)))→Calls Tryz.prog 85 #[.int .u8 (g 0 / 32*32),.slice (some ⟨k,0,none⟩) N c] w (RetN gr cs n w)):Calls Tryz.prog 54 #[.slice (some ⟨q,off,none⟩) N c,.int .i64 N] w (RetN gr cs n w):=by
 have hp0:=Heap.start w
 go_enter Tryz.func54,Tryz.ntmps54
 refine sgsD [.alloc (TXC ⟨false,false,.slice none 0 0⟩),.det (.int .i64 0)] [0,1] [0,0] (fun L d=>[.slice (some ⟨q,off,none⟩) N c,.int .i64 N,undef,undef,L.p 0,d 5]++U 40) (fun L=>[(L.b 0,TXC ⟨false,false,.slice none 0 0⟩)]) hp0 ⟨
  oZ rTX,oA,
  trivial⟩ (fun L0 _ w1 hp1=>?_)
 refine wp_seq_k (fun K2 k2=>?_)
 refine sgsD [.det (.slice (some ⟨q,off,none⟩) N c),.det (.int .i64 N),.det (.int .i64 N),.det (.bool false)] [0,1,2,3] [0,1,0,7] (fun L d=>[.slice (some ⟨q,off,none⟩) N c,.int .i64 N]++(D d 2 2++([L0.p 0]++(D d 5 6++([.bool false]++D d 12 34))))) (fun L=>[(L0.b 0,TXC ⟨false,false,.slice none 0 0⟩)]) hp1 ⟨
  oM,fun h=>⟨ob_len (p:=(some ⟨q,off,none⟩)) (n:=N) (c:=c) (fun _=>rfl) h rfl (fun _=>by kernel_rfl) Tryz.underlying45⟩,oM,oJ .i64 .i64 N N (h:=fun w=>(lssI _ _ _ w).trans (by rw [decide_eq_false (by omega)])),
  trivial⟩ (fun L1 _ w2 hp2=>?_)
 refine cfk (k2 _ _ ?_)
 refine wp_seq_k (fun K4 k4=>?_)
 refine sgsD [.det (.slice (some ⟨q,off,none⟩) N c),.det (.int .i64 N),.det (.int .i64 N),.det (.bool false)] [0,1,2,3] [0,1,0,7] (fun L d=>[.slice (some ⟨q,off,none⟩) N c]++(D d 1 3++([L0.p 0]++(D d 5 11++([.bool false]++D d 17 29))))) (fun L=>[(L0.b 0,TXC ⟨false,false,.slice none 0 0⟩)]) hp2 ⟨
  oM,fun h=>⟨ob_len (p:=(some ⟨q,off,none⟩)) (n:=N) (c:=c) (fun _=>rfl) h rfl (fun _=>by kernel_rfl) Tryz.underlying45⟩,oM,oJ .i64 .i64 N N (h:=fun w=>(gtrIp _ _ _ w).trans (by rw [decide_eq_false (by omega)])),
  trivial⟩ (fun L2 _ w3 hp3=>?_)
 refine cfk (k4 _ _ ?_)
 refine sgsD [.det (.slice (some ⟨q,off,none⟩) N c),.det (.pointer (some ⟨q,off+0*1,none⟩)),.det (.int .u8 (g 0)),.det (.int .u8 (g 0 / 32*32)),.det (.int .u8 (g 0 / 32*32))] (nn 5) [0,1,3,7,15] (fun L d=>[.slice (some ⟨q,off,none⟩) N c]++(D d 1 3++([L0.p 0,d 5,.int .u8 (g 0 / 32*32)]++D d 7 39))) (fun L=>[(L0.b 0,TXC ⟨false,false,.slice none 0 0⟩)]) hp3 ⟨
  oM,oIS (n:=N) (c:=c) 0 Tryz.underlying45 sizeY h0,oLC oneY (fun L w hs=>cell0 h0 (AtK.below hb hs.bel)),oJ .u8 .u8 (g 0) 224 (h:=fun w=>andY _ _ _ _ (and224 r0 r1) w),
  oA,
  trivial⟩ (fun L3 d3 w4 hp4=>?_)
 refine wp_seq_k (fun K7 k7=>?_)
 refine gsA [.det (.slice (some ⟨q,off,none⟩) N c),.any (isB w.heap.size [L0.b 0] g N),.detV 1 (fun v=>v)] [0,1,2] [0,1,3] (fun L=>[.slice (some ⟨q,off,none⟩) N c]++(D d3 1 3++([L0.p 0,d3 5,.int .u8 (g 0 / 32*32),L.v 1]++(D d3 8 14++([.slice (some ⟨q,off,none⟩) N c,L.v 1]++D d3 24 22))))) (fun L=>[(L0.b 0,TXC ⟨false,false,.slice none 0 0⟩)]) hp4 ⟨
  oM,oY (fun L=>#[.slice (some ⟨q,off,none⟩) N c]) (fun _ _ _ h hb=>h.stay hb) (fun L w hs=>newB hs [L0.b 0] (cloneN N q off c g h0 hN w (AtK.below hb hs.bel))),
  oAV,
  trivial⟩ (fun L4 w5 hp5 ha5=>?_)
 obtain ⟨kb4b1,cb4b1,eb4b1,lb4b1,mb4b1,qb4b1,ub4b1,xb4b1⟩:=AnyF.at ha5 (j:=1) rfl rfl
 rw [eb4b1]
 have hp54b1:=Heap.add hp5 qb4b1 ub4b1 xb4b1
 refine k7 _ _ ?_
 refine sgsD [.det (.slice (some ⟨kb4b1,0,none⟩) N cb4b1),.det (.pointer (some ⟨kb4b1,0+0*1,none⟩)),.det (.int .u8 (g 0)),.det (.int .u8 (g 0%32)),.det (.pointer (some ⟨kb4b1,0+0*1,none⟩)),.store (.base 1) (0+0*1) ([.int .u8 (g 0%32)]) (BC (su g 0 (g 0%32)) N)] (nn 6) [0,1,3,7,15,31] (fun L d=>D d 0 4++([L0.p 0,d 5,.int .u8 (g 0 / 32*32),.slice (some ⟨kb4b1,0,none⟩) N cb4b1]++D d 8 38)) (fun L=>[(L0.b 0,TXC ⟨false,false,.slice none 0 0⟩),(kb4b1,BC (su g 0 (g 0%32)) N)]) hp54b1 ⟨
  oM,oIS (n:=N) (c:=cb4b1) 0 Tryz.underlying45 sizeY h0,oLY 1 h0,oJ .u8 .u8 (g 0) 224 (h:=fun w=>andnY _ _ _ _ (andn224 r0 r1) w),oIS (n:=N) (c:=cb4b1) 0 Tryz.underlying45 sizeY h0,
  oTY (j:=0) h0,
  trivial⟩ (fun L5 _ w6 hp6=>?_)
 refine wp_seq_k (fun K9 k9=>?_)
 refine sgsD [.det (.int .u8 (g 0 / 32*32)),.det (.int .u8 128),.det (.bool false)] [0,1,2] [0,1,3] (fun L d=>D d 0 4++([L0.p 0,d 5,.int .u8 (g 0 / 32*32),.slice (some ⟨kb4b1,0,none⟩) N cb4b1]++(D d 8 23++([.bool false]++D d 32 14)))) (fun L=>[(L0.b 0,TXC ⟨false,false,.slice none 0 0⟩),(kb4b1,BC (su g 0 (g 0%32)) N)]) hp6 ⟨
  oM,oJ .u8 .u8 (g 0 / 32*32) 128 (h:=fun w=>andY _ _ _ _ (and128t r0 r1 hl) w),oJ .u8 .u8 128 0 (h:=fun w=>(eqlI _ _ _ _ w).trans rfl),
  trivial⟩ (fun L6 _ w7 hp7=>?_)
 refine cfk (k9 _ _ ?_)
 refine wp_seq_k (fun K11 k11=>?_)
 refine sgsD [.det (.int .u8 (g 0 / 32*32)),.det (.int .u8 0),.det (.bool false)] [0,1,2] [0,1,3] (fun L d=>D d 0 4++([L0.p 0,d 5,.int .u8 (g 0 / 32*32),.slice (some ⟨kb4b1,0,none⟩) N cb4b1]++(D d 8 27++([.bool false]++D d 36 10)))) (fun L=>[(L0.b 0,TXC ⟨false,false,.slice none 0 0⟩),(kb4b1,BC (su g 0 (g 0%32)) N)]) hp7 ⟨
  oM,oJ .u8 .u8 (g 0 / 32*32) 64 (h:=fun w=>andY _ _ _ _ (and64f r0 r1 hl h6) w),oJ .u8 .u8 0 0 (h:=fun w=>(neqI _ _ _ _ w).trans rfl),
  trivial⟩ (fun L7 _ w8 hp8=>?_)
 refine cfk (k11 _ _ ?_)
 refine wp_seq_k (fun K13 k13=>?_)
 refine wp_region_list ?_
 refine gsC 3 [.det (.int .u8 (g 0 / 32*32)),.det (.slice (some ⟨kb4b1,0,none⟩) N cb4b1),.any (isN w.heap.size [L0.b 0,kb4b1] gr cs n)] [0,1,2] [0,1,3] (fun L d=>D d 0 4++([L0.p 0]++(D d 5 38++([L.v 2]++D d 44 2)))) (fun L=>[(L0.b 0,TXC ⟨false,false,.slice none 0 0⟩),(kb4b1,BC (su g 0 (g 0%32)) N)]) hp8 ⟨
  oM,oM,oY (fun L=>#[.int .u8 (g 0 / 32*32),.slice (some ⟨kb4b1,0,none⟩) N cb4b1]) (fun _ _ _ h hb=>h.stay hb) (fun L w hs=>newN hs [L0.b 0,kb4b1] (hI _ _ w (st hg hs.bel) lb4b1 mb4b1 (box_cell (seen_at hs (k:=1) rfl)))),
  trivial⟩ (fun L8 _ w9 hp9 ha9=>?_)
 obtain ⟨kbN,cbN,eN,lbN,qbN,ubN,xbN⟩:=AnyF.at (ha9 (by kernel_rfl)) (j:=2) rfl rfl
 rw [eN]
 have hpN:=Heap.add hp9 qbN ubN xbN
 refine gsC 4 [.det (TXV ⟨false,gr,.slice (some ⟨kbN,0,none⟩) n cbN⟩),.det (.int .i64 0),.store (.base 0) 0 (TXC ⟨false,gr,.slice (some ⟨kbN,0,none⟩) n cbN⟩) (TXC ⟨false,gr,.slice (some ⟨kbN,0,none⟩) n cbN⟩),.det (.int .i64 0)] [0,1,2,3] [0,1,3,7] (fun L d=>D d 0 4++([L0.p 0,.int .i64 0]++D d 6 40)) (fun L=>[(L0.b 0,TXC ⟨false,gr,.slice (some ⟨kbN,0,none⟩) n cbN⟩),(kb4b1,BC (su g 0 (g 0%32)) N),(kbN,cs)]) hpN ⟨
  oX,oX,oT rTX,oA,
  trivial⟩ (fun L9 _ w10 hp10 ha10=>?_)
 refine wpList_nil ?_
 refine k13 _ _ ?_
 refine wp_ret ?_
 refine bodyPost_ret (v:=.tuple #[TXV ⟨false,gr,.slice (some ⟨kbN,0,none⟩) n cbN⟩,.int .i64 0]) ?_ rfl ?_
 ·exact rct rTX rfl (by kernel_rfl) (by kernel_rfl) (hp10.bound 0 rfl).2
 ·exact ⟨kbN,cbN,rfl,lbN,(hp10.bound 2 rfl).1,(hp10.bound 2 rfl).2,hp10.bel⟩
end Go.Proofs.YtmibajbpimcfnaaGreatDoor.fpn
