/- Texts laid together. -/
import Derived.Test.YtmibajbpimcfnaaGreatDoorPA
import Derived.Test.YtmibajbpimcfnaaGreatDoorGO
import Derived.Test.YtmibajbpimcfnaaGreatDoorGYB
import Derived.Test.YtmibajbpimcfnaaGreatDoorPE
set_option linter.unusedVariables false
set_option linter.unusedSimpArgs false
set_option maxRecDepth 4000
set_option maxHeartbeats 4000000
/- PointHeads' paths. -/
namespace Go.Proofs.YtmibajbpimcfnaaGreatDoor.fpn
open Go.RowKit Pl EC
theorem conv8n (c:Nat) (hc:c<256) (w:World):(convert 5 3 (.int .u8 (c:Int))).run Tryz.prog w=.ok (.int .i64 (c:Int)) w:=by
 have e:IntKind.i64.wrap (c:Int)=(c:Int):=by unfold IntKind.wrap;simp [IntKind.bits,IntKind.signed];omega
 simp [convert,Sem.run_bind,run_underlying Tryz.underlying5,run_underlying Tryz.underlying3,Conv.intToInt,e]
theorem orY (t:TypeId) (a b c:Int) (h:bits .or .u8 a b=c) (w:World):(binOp .or t (.int .u8 a) (.int .u8 b)).run Tryz.prog w=.ok (.int .u8 c) w:=by
 simp [binOp,Sem.run_bind,Op.intBits]
 exact h
theorem headsAll {G:World→Prop} (K:PtK G) (R:RefK) (tp at_ xb j:Nat) (tr tv xr vb:Int) (P1:G1p) (P2:T2.G2p) (e1 e2:Int) (w:World) (hg:G w) (hj0:at_%48=j) (hj:j<48) (hat:at_<256) (htr:((tp:Nat):Int)%8=tr) (htv:tr*32=tv) (hv:0≤tv∧tv<256) (hxr:((xb:Nat):Int)%32=xr) (hor:bits .or .u8 (su (fun _=>0) 0 tv j) xr=vb) (hr1:∀ i,i<48→0≤(su (su (fun _=>0) 0 tv) j vb) i∧(su (su (fun _=>0) 0 tv) j vb) i<256) (hr2:∀ i,i<96→0≤(su (su (fun _=>0) 0 tv) j vb) i∧(su (su (fun _=>0) 0 tv) j vb) i<256) (ht1:tkA (su (su (fun _=>0) 0 tv) j vb) 48=.tuple #[GV P1,.int .i64 e1]) (ht2:T2.tkB (su (su (fun _=>0) 0 tv) j vb) 96=.tuple #[T2.GV P2,.int .i64 e2]) (hA:tr<4∨tr=7∨(tr=6∧¬ xr=0)→e1=3∧e2=3) (hB:tr=6→xr=0→P1=⟨0,0,true⟩∧e1=0∧P2=⟨0,0,true⟩∧e2=0):Calls Tryz.prog 8 #[.int .u8 ((tp:Nat):Int),.int .u8 ((at_:Nat):Int),.int .u8 ((xb:Nat):Int)] w (Ret (.bool true) w):=by
 have kn0:(decide (tr<4))=true→(decide (e1=3))=true:=by subst_vars;intro h1q;simp only [decide_eq_true_eq,decide_eq_false_iff_not] at h1q;exact decide_eq_true (hA (by omega)).1
 have kn1:(decide (tr<4))=false→(decide (tr=7))=true→(decide (e1=3))=true:=by subst_vars;intro h1q h2q;simp only [decide_eq_true_eq,decide_eq_false_iff_not] at h1q h2q;exact decide_eq_true (hA (by omega)).1
 have kn2:(decide (tr<4))=false→(decide (tr=7))=false→(decide (tr=6))=true→(decide (xr=0))=true→(decide (e1=0))=true:=by subst_vars;intro h1q h2q h3q h4q;simp only [decide_eq_true_eq,decide_eq_false_iff_not] at h1q h2q h3q h4q;exact decide_eq_true (hB (by omega) (by omega)).2.1
 have kn3:(decide (tr<4))=false→(decide (tr=7))=false→(decide (tr=6))=true→(decide (xr=0))=true→(decide (e1=0))=true→(decide (P1=⟨0,0,true⟩))=true:=by subst_vars;intro h1q h2q h3q h4q h5q;simp only [decide_eq_true_eq,decide_eq_false_iff_not] at h1q h2q h3q h4q h5q;exact decide_eq_true (hB (by omega) (by omega)).1
 have kn4:(decide (tr<4))=false→(decide (tr=7))=false→(decide (tr=6))=true→(decide (xr=0))=true→(decide (e1=0))=true→(decide (P1=⟨0,0,true⟩))=true→(decide (e2=0))=true:=by subst_vars;intro h1q h2q h3q h4q h5q h6q;simp only [decide_eq_true_eq,decide_eq_false_iff_not] at h1q h2q h3q h4q h5q h6q;exact decide_eq_true (hB (by omega) (by omega)).2.2.2
 have kn5:(decide (tr<4))=false→(decide (tr=7))=false→(decide (tr=6))=true→(decide (xr=0))=false→(decide (e1=3))=true:=by subst_vars;intro h1q h2q h3q h4q;simp only [decide_eq_true_eq,decide_eq_false_iff_not] at h1q h2q h3q h4q;exact decide_eq_true (hA (by omega)).1
 have fin0:(decide (tr<4))=true→(decide (e1=3))=true→Ending.returned (.bool (decide (e2=3)))=Ending.returned (.bool true):=by subst_vars;intro h1q h2q;refine congrArg (fun b=>Ending.returned (.bool b)) ?_;simp only [decide_eq_true_eq,decide_eq_false_iff_not] at h1q h2q;exact decide_eq_true (hA (by omega)).2
 have fin1:(decide (tr<4))=false→(decide (tr=7))=true→(decide (e1=3))=true→Ending.returned (.bool (decide (e2=3)))=Ending.returned (.bool true):=by subst_vars;intro h1q h2q h3q;refine congrArg (fun b=>Ending.returned (.bool b)) ?_;simp only [decide_eq_true_eq,decide_eq_false_iff_not] at h1q h2q h3q;exact decide_eq_true (hA (by omega)).2
 have fin2:(decide (tr<4))=false→(decide (tr=7))=false→(decide (tr=6))=true→(decide (xr=0))=true→(decide (e1=0))=true→(decide (P1=⟨0,0,true⟩))=true→(decide (e2=0))=true→Ending.returned (.bool (decide (P2=⟨0,0,true⟩)))=Ending.returned (.bool true):=by subst_vars;intro h1q h2q h3q h4q h5q h6q h7q;refine congrArg (fun b=>Ending.returned (.bool b)) ?_;simp only [decide_eq_true_eq,decide_eq_false_iff_not] at h1q h2q h3q h4q h5q h6q h7q;exact decide_eq_true (hB (by omega) (by omega)).2.2.1
 have fin3:(decide (tr<4))=false→(decide (tr=7))=false→(decide (tr=6))=true→(decide (xr=0))=false→(decide (e1=3))=true→Ending.returned (.bool (decide (e2=3)))=Ending.returned (.bool true):=by subst_vars;intro h1q h2q h3q h4q h5q;refine congrArg (fun b=>Ending.returned (.bool b)) ?_;simp only [decide_eq_true_eq,decide_eq_false_iff_not] at h1q h2q h3q h4q h5q;exact decide_eq_true (hA (by omega)).2
 have fin4:(decide (tr<4))=false→(decide (tr=7))=false→(decide (tr=6))=false→Ending.returned (.bool true)=Ending.returned (.bool true):=by subst_vars;intro h1q h2q h3q;rfl
 have hp0:=Heap.start w
 go_enter Tryz.func8,Tryz.ntmps8
 refine sgsD [.det (.bool false)] [0] [0] (fun L d=>[.int .u8 ((tp:Nat):Int),.int .u8 ((at_:Nat):Int),.int .u8 ((xb:Nat):Int)]++D d 3 128) (fun L=>[]) hp0 ⟨
  oA,
  trivial⟩ (fun L0 d0 w1 hp1=>?_)
 refine wp_seq_k (fun K2 k2=>?_)
 refine sgsD [.det (.bool true),.det (.bool false)] [0,1] [0,1] (fun L d=>[.int .u8 ((tp:Nat):Int),.int .u8 ((at_:Nat):Int),.int .u8 ((xb:Nat):Int)]++(D d 3 15++([.bool false]++D d 19 112))) (fun L=>[]) hp1 ⟨
  oC K.stay hg (begun10 K R),oN,
  trivial⟩ (fun L1 d1 w2 hp2=>?_)
 refine cfk (k2 _ _ ?_)
 refine sdrD [.alloc (BC (fun _=>0) 48),.alloc (BC (fun _=>0) 96),.detB 0 (fun b=>.slice (some ⟨b,0,none⟩) 48 48),.detB 1 (fun b=>.slice (some ⟨b,0,none⟩) 96 96)] [0,1,2,3] [0,0,1,7] (fun L d=>[.int .u8 ((tp:Nat):Int),.int .u8 ((at_:Nat):Int),.int .u8 ((xb:Nat):Int)]++(D d 3 4++([.slice (some ⟨L.b 0,0,none⟩) 48 48,.slice (some ⟨L.b 1,0,none⟩) 96 96]++D d 9 122))) (fun L=>[(L.b 0,BC (fun _=>0) 48),(L.b 1,BC (fun _=>0) 96)]) hp2 ⟨
  oMa (by decide) (by decide),oMa (by decide) (by decide),oAN,oAN,
  trivial⟩ (fun L2 d2 w3 hp3=>?_)
 refine sgsD [.det (.slice (some ⟨(L2.b 0),0,none⟩) 48 48),.det (.slice (some ⟨(L2.b 1),0,none⟩) 96 96),.det (.int .u8 ((tp:Nat):Int)),.det (.int .u8 tr),.det (.int .u8 tv),.det (.int .u8 ((tp:Nat):Int)),.det (.int .u8 tr),.det (.int .u8 tv),.det (L2.p 0),.store (.base 0) 0 ([.int .u8 tv]) (BC (su (fun _=>0) 0 tv) 48),.det (L2.p 1),.store (.base 1) 0 ([.int .u8 tv]) (BC (su (fun _=>0) 0 tv) 96)] (Pl.nn 12) [0,0,0,4,12,0,32,96,29,285,1023,2047] (fun L d=>[.int .u8 ((tp:Nat):Int),.int .u8 ((at_:Nat):Int),.int .u8 ((xb:Nat):Int)]++(D d 3 4++([.slice (some ⟨(L2.b 0),0,none⟩) 48 48,.slice (some ⟨(L2.b 1),0,none⟩) 96 96]++D d 9 122))) (fun L=>[(L2.b 0,BC (su (fun _=>0) 0 tv) 48),(L2.b 1,BC (su (fun _=>0) 0 tv) 96)]) hp3 ⟨
  oM,oM,oM,oJ .u8 .u8 ((tp:Nat):Int) 8 (h:=fun w=>remY _ _ _ _ htr (by omega) (by decide) w),oJ .u8 .u8 tr 32 (h:=fun w=>mulY _ _ _ _ htv hv w),
  oM,oJ .u8 .u8 ((tp:Nat):Int) 8 (h:=fun w=>remY _ _ _ _ htr (by omega) (by decide) w),oJ .u8 .u8 tr 32 (h:=fun w=>mulY _ _ _ _ htv hv w),oIS (b:=(L2.b 0)) (off:=0) (n:=48) (c:=48) (sz:=1) 0 Tryz.underlying45 sizeY (by decide),
  oT1 oneY,oIS (b:=(L2.b 1)) (off:=0) (n:=96) (c:=96) (sz:=1) 0 Tryz.underlying45 sizeY (by decide),oT1 oneY,
  trivial⟩ (fun L3 d3 w4 hp4=>?_)
 refine sgsD [.det (.slice (some ⟨(L2.b 0),0,none⟩) 48 48),.det (.int .u8 ((at_:Nat):Int)),.det (.int .i64 ((at_:Nat):Int)),.det (.int .i64 ((j:Nat):Int)),.det (.pointer (some ⟨(L2.b 0),0+j*1,none⟩)),.det (.int .u8 (su (fun _=>0) 0 tv j)),.det (.int .u8 ((xb:Nat):Int)),.det (.int .u8 xr),.det (.int .u8 vb),.det (.pointer (some ⟨(L2.b 0),0+j*1,none⟩)),.store (.base 0) (0+j*1) ([.int .u8 vb]) (BC (su (su (fun _=>0) 0 tv) j vb) 48)] (Pl.nn 11) [0,0,2,6,15,31,0,64,255,511,1023] (fun L d=>[.int .u8 ((tp:Nat):Int),.int .u8 ((at_:Nat):Int),.int .u8 ((xb:Nat):Int)]++(D d 3 4++([.slice (some ⟨(L2.b 0),0,none⟩) 48 48,.slice (some ⟨(L2.b 1),0,none⟩) 96 96]++D d 9 122))) (fun L=>[(L2.b 0,BC (su (su (fun _=>0) 0 tv) j vb) 48),(L2.b 1,BC (su (fun _=>0) 0 tv) 96)]) hp4 ⟨
  oM,oM,oCv (conv8n at_ hat),oJ .i64 .i64 ((at_:Nat):Int) 48 (h:=fun w=>remN _ at_ 48 j (by decide) (by omega) hj0 w),oIS (n:=48) (c:=48) j Tryz.underlying45 sizeY (show j<48 by omega),
  oLY 0 (show j<48 by omega),oM,oJ .u8 .u8 ((xb:Nat):Int) 32 (h:=fun w=>remY _ _ _ _ hxr (by omega) (by decide) w),oJ .u8 .u8 (su (fun _=>0) 0 tv j) xr (h:=fun w=>orY _ _ _ _ hor w),
  oIS (n:=48) (c:=48) j Tryz.underlying45 sizeY (show j<48 by omega),oTY (j:=j) (show j<48 by omega),
  trivial⟩ (fun L4 d4 w5 hp5=>?_)
 refine sgsD [.det (.slice (some ⟨(L2.b 1),0,none⟩) 96 96),.det (.int .u8 ((at_:Nat):Int)),.det (.int .i64 ((at_:Nat):Int)),.det (.int .i64 ((j:Nat):Int)),.det (.pointer (some ⟨(L2.b 1),0+j*1,none⟩)),.det (.int .u8 (su (fun _=>0) 0 tv j)),.det (.int .u8 ((xb:Nat):Int)),.det (.int .u8 xr),.det (.int .u8 vb),.det (.pointer (some ⟨(L2.b 1),0+j*1,none⟩)),.store (.base 1) (0+j*1) ([.int .u8 vb]) (BC (su (su (fun _=>0) 0 tv) j vb) 96)] (Pl.nn 11) [0,0,2,6,15,31,0,64,255,511,1023] (fun L d=>[.int .u8 ((tp:Nat):Int),d 1,.int .u8 ((xb:Nat):Int)]++(D d 3 4++([.slice (some ⟨(L2.b 0),0,none⟩) 48 48,.slice (some ⟨(L2.b 1),0,none⟩) 96 96]++D d 9 122))) (fun L=>[(L2.b 0,BC (su (su (fun _=>0) 0 tv) j vb) 48),(L2.b 1,BC (su (su (fun _=>0) 0 tv) j vb) 96)]) hp5 ⟨
  oM,oM,oCv (conv8n at_ hat),oJ .i64 .i64 ((at_:Nat):Int) 48 (h:=fun w=>remN _ at_ 48 j (by decide) (by omega) hj0 w),oIS (n:=96) (c:=96) j Tryz.underlying45 sizeY (show j<96 by omega),
  oLY 1 (show j<96 by omega),oM,oJ .u8 .u8 ((xb:Nat):Int) 32 (h:=fun w=>remY _ _ _ _ hxr (by omega) (by decide) w),oJ .u8 .u8 (su (fun _=>0) 0 tv j) xr (h:=fun w=>orY _ _ _ _ hor w),
  oIS (n:=96) (c:=96) j Tryz.underlying45 sizeY (show j<96 by omega),oTY (j:=j) (show j<96 by omega),
  trivial⟩ (fun L5 d5 w6 hp6=>?_)
 refine sgsD [.det (.slice (some ⟨(L2.b 0),0,none⟩) 48 48),.det (.tuple #[GV P1,.int .i64 e1]),.det (.tuple #[GV P1,.int .i64 e1]),.det (GV P1),.det (.int .i64 e1),.alloc (GC ⟨0,0,false⟩),.store (.new 5) 0 (GC P1) (GC P1),.det (.int .i64 e1)] (Pl.nn 8) [0,1,3,7,7,0,47,127] (fun L d=>[.int .u8 ((tp:Nat):Int),d 1,.int .u8 ((xb:Nat):Int)]++(D d 3 4++([.slice (some ⟨(L2.b 0),0,none⟩) 48 48,.slice (some ⟨(L2.b 1),0,none⟩) 96 96,L.p 5,.int .i64 e1]++D d 11 120))) (fun L=>[(L2.b 0,BC (su (su (fun _=>0) 0 tv) j vb) 48),(L2.b 1,BC (su (su (fun _=>0) 0 tv) j vb) 96),(L.b 5,GC P1)]) hp6 ⟨
  oM,oCS (fun L=>#[.slice (some ⟨(L2.b 0),0,none⟩) 48 48]) (fun L w hs=>by have h:=K.take1 _ 48 48 (su (su (fun _=>0) 0 tv) j vb) w (K.stay hg hs.bel) (Nat.le_refl _) (by decide) (box_at (seen_at hs (k:=0) rfl)) hr1;rw [ht1] at h;exact h),
  oM,oX,oX,oZ rG,oT rG,oA,
  trivial⟩ (fun L6 d6 w7 hp7=>?_)
 refine sgsD [.det (.slice (some ⟨(L2.b 1),0,none⟩) 96 96),.det (.tuple #[T2.GV P2,.int .i64 e2]),.det (.tuple #[T2.GV P2,.int .i64 e2]),.det (T2.GV P2),.det (.int .i64 e2),.alloc (T2.GC ⟨0,0,false⟩),.store (.new 5) 0 (T2.GC P2) (T2.GC P2),.det (.int .i64 e2)] (Pl.nn 8) [0,1,3,7,7,0,47,127] (fun L d=>[.int .u8 ((tp:Nat):Int),d 1,.int .u8 ((xb:Nat):Int)]++(D d 3 4++([.slice (some ⟨(L2.b 0),0,none⟩) 48 48,.slice (some ⟨(L2.b 1),0,none⟩) 96 96,L6.p 5,.int .i64 e1,L.p 5,.int .i64 e2]++D d 13 118))) (fun L=>[(L2.b 0,BC (su (su (fun _=>0) 0 tv) j vb) 48),(L2.b 1,BC (su (su (fun _=>0) 0 tv) j vb) 96),(L6.b 5,GC P1),(L.b 5,T2.GC P2)]) hp7 ⟨
  oM,oCS (fun L=>#[.slice (some ⟨(L2.b 1),0,none⟩) 96 96]) (fun L w hs=>by have h:=K.take2 _ 96 96 (su (su (fun _=>0) 0 tv) j vb) w (K.stay hg hs.bel) (Nat.le_refl _) (by decide) (box_at (seen_at hs (k:=1) rfl)) hr2;rw [ht2] at h;exact h),
  oM,oX,oX,oZ T2.rG,oT T2.rG,oA,
  trivial⟩ (fun L7 d7 w8 hp8=>?_)
 refine wp_seq_k (fun K10 k10=>?_)
 refine wp_seq_k (fun K11 k11=>?_)
 rcases Bool.eq_false_or_eq_true (decide (tr<4)) with h1q | h1q
 ·skip
  refine gsD [.det (.int .u8 ((tp:Nat):Int)),.det (.int .u8 tr),.det (.bool (decide (tr<4))),.det (.bool true),.det undef,.det undef,.det undef,.det (.bool true)] (Pl.nn 8) [0,1,3,7,15,31,63,127] (fun L d=>D d 0 10++([.int .i64 e1,d 11,.int .i64 e2]++(D d 13 55++([.bool true]++D d 69 62)))) (fun L=>[(L2.b 0,BC (su (su (fun _=>0) 0 tv) j vb) 48),(L2.b 1,BC (su (su (fun _=>0) 0 tv) j vb) 96),(L6.b 5,GC P1),(L7.b 5,T2.GC P2)]) hp8 ⟨
   oM,oJ .u8 .u8 ((tp:Nat):Int) 8 (h:=fun w=>remY _ _ _ _ htr (by omega) (by decide) w),oJ .u8 .u8 tr 4 (h:=fun w=>lssY _ _ _ w),oMB h1q,oS,oS,
   oS,oP,
   trivial⟩ (fun L8 d8 w9 hp9=>?_)
  refine k11 _ _ ?_
  refine cT ?_
  refine wp_seq_k (fun K12 k12=>?_)
  have h2q:=kn0 h1q
  refine gsD [.det (.int .i64 e1),.det (.bool (decide (e1=3))),.det (.bool true),.det (.int .i64 e2),.det (.bool (decide (e2=3))),.det (.bool (decide (e2=3))),.det (.bool (decide (e2=3)))] (Pl.nn 7) [0,1,3,7,15,31,63] (fun L d=>D d 0 6++([.bool (decide (e2=3))]++D d 7 124)) (fun L=>[(L2.b 0,BC (su (su (fun _=>0) 0 tv) j vb) 48),(L2.b 1,BC (su (su (fun _=>0) 0 tv) j vb) 96),(L6.b 5,GC P1),(L7.b 5,T2.GC P2)]) hp9 ⟨
   oM,oJ .i64 .i64 e1 3 (h:=fun w=>eqlI _ _ _ _ w),oMB h2q,oM,oJ .i64 .i64 e2 3 (h:=fun w=>eqlI _ _ _ _ w),oP,oA,
   trivial⟩ (fun L9 d9 w10 hp10=>?_)
  refine k12 _ _ ?_
  refine wp_ret ?_
  refine bodyPost_ret (v:=.bool (decide (e2=3))) ?_ rfl ?_
  ·exact res_t rfl (by kernel_rfl) _
  ·exact ⟨fin0 h1q h2q,hp10.bel⟩
 ·skip
  refine gsD [.det (.int .u8 ((tp:Nat):Int)),.det (.int .u8 tr),.det (.bool (decide (tr<4))),.det (.bool false),.det (.int .u8 ((tp:Nat):Int)),.det (.int .u8 tr),.det (.bool (decide (tr=7))),.det (.bool (decide (tr=7)))] (Pl.nn 8) [0,1,3,7,15,31,63,127] (fun L d=>[.int .u8 ((tp:Nat):Int),d 1,.int .u8 ((xb:Nat):Int)]++(D d 3 4++([.slice (some ⟨(L2.b 0),0,none⟩) 48 48,.slice (some ⟨(L2.b 1),0,none⟩) 96 96,L6.p 5,.int .i64 e1,L7.p 5,.int .i64 e2]++(D d 13 55++([.bool (decide (tr=7))]++D d 69 62))))) (fun L=>[(L2.b 0,BC (su (su (fun _=>0) 0 tv) j vb) 48),(L2.b 1,BC (su (su (fun _=>0) 0 tv) j vb) 96),(L6.b 5,GC P1),(L7.b 5,T2.GC P2)]) hp8 ⟨
   oM,oJ .u8 .u8 ((tp:Nat):Int) 8 (h:=fun w=>remY _ _ _ _ htr (by omega) (by decide) w),oJ .u8 .u8 tr 4 (h:=fun w=>lssY _ _ _ w),oMB h1q,oM,oJ .u8 .u8 ((tp:Nat):Int) 8 (h:=fun w=>remY _ _ _ _ htr (by omega) (by decide) w),
   oJ .u8 .u8 tr 7 (h:=fun w=>eqlI _ _ _ _ w),oP,
   trivial⟩ (fun L8 d8 w9 hp9=>?_)
  refine k11 _ _ ?_
  rcases Bool.eq_false_or_eq_true (decide (tr=7)) with h2q | h2q
  ·skip
   refine cond_t h2q ?_
   refine wp_seq_k (fun K12 k12=>?_)
   have h3q:=kn1 h1q h2q
   refine gsD [.det (.int .i64 e1),.det (.bool (decide (e1=3))),.det (.bool true),.det (.int .i64 e2),.det (.bool (decide (e2=3))),.det (.bool (decide (e2=3))),.det (.bool (decide (e2=3)))] (Pl.nn 7) [0,1,3,7,15,31,63] (fun L d=>D d 0 6++([.bool (decide (e2=3))]++D d 7 124)) (fun L=>[(L2.b 0,BC (su (su (fun _=>0) 0 tv) j vb) 48),(L2.b 1,BC (su (su (fun _=>0) 0 tv) j vb) 96),(L6.b 5,GC P1),(L7.b 5,T2.GC P2)]) hp9 ⟨
    oM,oJ .i64 .i64 e1 3 (h:=fun w=>eqlI _ _ _ _ w),oMB h3q,oM,oJ .i64 .i64 e2 3 (h:=fun w=>eqlI _ _ _ _ w),oP,oA,
    trivial⟩ (fun L9 d9 w10 hp10=>?_)
   refine k12 _ _ ?_
   refine wp_ret ?_
   refine bodyPost_ret (v:=.bool (decide (e2=3))) ?_ rfl ?_
   ·exact res_t rfl (by kernel_rfl) _
   ·exact ⟨fin1 h1q h2q h3q,hp10.bel⟩
  ·skip
   refine cond_f h2q ?_
   refine skips ?_
   refine k10 _ _ ?_
   refine wp_seq_k (fun K12 k12=>?_)
   refine sgsD [.det (.int .u8 ((tp:Nat):Int)),.det (.int .u8 tr),.det (.bool (decide (tr=6)))] [0,1,2] [0,1,3] (fun L d=>D d 0 2++([.int .u8 ((xb:Nat):Int)]++(D d 3 4++([.slice (some ⟨(L2.b 0),0,none⟩) 48 48,.slice (some ⟨(L2.b 1),0,none⟩) 96 96,L6.p 5,.int .i64 e1,L7.p 5,.int .i64 e2]++(D d 13 64++([.bool (decide (tr=6))]++D d 78 53)))))) (fun L=>[(L2.b 0,BC (su (su (fun _=>0) 0 tv) j vb) 48),(L2.b 1,BC (su (su (fun _=>0) 0 tv) j vb) 96),(L6.b 5,GC P1),(L7.b 5,T2.GC P2)]) hp9 ⟨
    oM,oJ .u8 .u8 ((tp:Nat):Int) 8 (h:=fun w=>remY _ _ _ _ htr (by omega) (by decide) w),oJ .u8 .u8 tr 6 (h:=fun w=>eqlI _ _ _ _ w),
    trivial⟩ (fun L9 d9 w10 hp10=>?_)
   rcases Bool.eq_false_or_eq_true (decide (tr=6)) with h3q | h3q
   ·skip
    refine cond_t h3q ?_
    refine wp_seq_k (fun K14 k14=>?_)
    refine sgsD [.det (.int .u8 ((xb:Nat):Int)),.det (.int .u8 xr),.det (.bool (!decide (xr=0)))] [0,1,2] [0,1,3] (fun L d=>D d 0 9++([L6.p 5,.int .i64 e1,L7.p 5,.int .i64 e2]++(D d 13 67++([.bool (!decide (xr=0))]++D d 81 50)))) (fun L=>[(L2.b 0,BC (su (su (fun _=>0) 0 tv) j vb) 48),(L2.b 1,BC (su (su (fun _=>0) 0 tv) j vb) 96),(L6.b 5,GC P1),(L7.b 5,T2.GC P2)]) hp10 ⟨
     oM,oJ .u8 .u8 ((xb:Nat):Int) 32 (h:=fun w=>remY _ _ _ _ hxr (by omega) (by decide) w),oJ .u8 .u8 xr 0 (h:=fun w=>neqI _ _ _ _ w),
     trivial⟩ (fun L10 d10 w11 hp11=>?_)
    rcases Bool.eq_false_or_eq_true (decide (xr=0)) with h4q | h4q
    ·skip
     refine cond_f (nt_t h4q) ?_
     refine skips ?_
     refine k14 _ _ ?_
     refine wp_seq_k (fun K16 k16=>?_)
     have h5q:=kn2 h1q h2q h3q h4q
     have h6q:=kn3 h1q h2q h3q h4q h5q
     have h7q:=kn4 h1q h2q h3q h4q h5q h6q
     refine gsD [.det (.int .i64 e1),.det (.bool (decide (e1=0))),.det (.bool true),.det (GV P1),.det (GV ⟨0,0,true⟩),.det (.bool true),.det (.bool true),.det (.bool true),.det (.int .i64 e2),.det (.bool (decide (e2=0))),.det (.bool (decide (e2=0))),.det (.bool true),.det (T2.GV P2),.det (T2.GV ⟨0,0,true⟩),.det (.bool (decide (P2=⟨0,0,true⟩))),.det (.bool (decide (P2=⟨0,0,true⟩))),.det (.bool (decide (P2=⟨0,0,true⟩)))] (Pl.nn 17) [0,1,3,7,7,31,63,127,255,511,1023,2047,4095,4095,16383,32767,65535] (fun L d=>D d 0 6++([.bool (decide (P2=⟨0,0,true⟩))]++D d 7 124)) (fun L=>[(L2.b 0,BC (su (su (fun _=>0) 0 tv) j vb) 48),(L2.b 1,BC (su (su (fun _=>0) 0 tv) j vb) 96),(L6.b 5,GC P1),(L7.b 5,T2.GC P2)]) hp11 ⟨
      oM,oJ .i64 .i64 e1 0 (h:=fun w=>eqlI _ _ _ _ w),oMB h5q,oL 2 0 rG,oD (buildGi true),oE (a:=P1) (b:=⟨0,0,true⟩) qG (yes (of_decide_eq_true h6q)),
      oP,oM,oM,oJ .i64 .i64 e2 0 (h:=fun w=>eqlI _ _ _ _ w),oP,oMB h7q,oL 3 0 T2.rG,oD (T2.buildGi true),oE (a:=P2) (b:=⟨0,0,true⟩) T2.qG rfl,oP,
      oA,
      trivial⟩ (fun L11 d11 w12 hp12=>?_)
     refine k16 _ _ ?_
     refine wp_ret ?_
     refine bodyPost_ret (v:=.bool (decide (P2=⟨0,0,true⟩))) ?_ rfl ?_
     ·exact res_t rfl (by kernel_rfl) _
     ·exact ⟨fin2 h1q h2q h3q h4q h5q h6q h7q,hp12.bel⟩
    ·skip
     refine cond_t (nt_f h4q) ?_
     refine wp_seq_k (fun K16 k16=>?_)
     have h5q:=kn5 h1q h2q h3q h4q
     refine gsD [.det (.int .i64 e1),.det (.bool (decide (e1=3))),.det (.bool true),.det (.int .i64 e2),.det (.bool (decide (e2=3))),.det (.bool (decide (e2=3))),.det (.bool (decide (e2=3)))] (Pl.nn 7) [0,1,3,7,15,31,63] (fun L d=>D d 0 6++([.bool (decide (e2=3))]++D d 7 124)) (fun L=>[(L2.b 0,BC (su (su (fun _=>0) 0 tv) j vb) 48),(L2.b 1,BC (su (su (fun _=>0) 0 tv) j vb) 96),(L6.b 5,GC P1),(L7.b 5,T2.GC P2)]) hp11 ⟨
      oM,oJ .i64 .i64 e1 3 (h:=fun w=>eqlI _ _ _ _ w),oMB h5q,oM,oJ .i64 .i64 e2 3 (h:=fun w=>eqlI _ _ _ _ w),oP,oA,
      trivial⟩ (fun L11 d11 w12 hp12=>?_)
     refine k16 _ _ ?_
     refine wp_ret ?_
     refine bodyPost_ret (v:=.bool (decide (e2=3))) ?_ rfl ?_
     ·exact res_t rfl (by kernel_rfl) _
     ·exact ⟨fin3 h1q h2q h3q h4q h5q,hp12.bel⟩
   ·skip
    refine cond_f h3q ?_
    refine skips ?_
    refine k12 _ _ ?_
    refine sgsD [.det (.slice (some ⟨(L2.b 0),0,none⟩) 48 48),.det (.tuple #[GV P1,.int .i64 e1]),.det (.tuple #[GV P1,.int .i64 e1]),.det (GV P1),.det (.int .i64 e1),.alloc (GC ⟨0,0,false⟩),.store (.new 5) 0 (GC P1) (GC P1),.det (.int .i64 e1)] (Pl.nn 8) [0,1,3,7,7,0,47,127] (fun L d=>D d 0 8++([.slice (some ⟨(L2.b 1),0,none⟩) 96 96,L6.p 5,.int .i64 e1,L7.p 5,.int .i64 e2,L.p 5,.int .i64 e1]++D d 15 116)) (fun L=>[(L2.b 0,BC (su (su (fun _=>0) 0 tv) j vb) 48),(L2.b 1,BC (su (su (fun _=>0) 0 tv) j vb) 96),(L6.b 5,GC P1),(L7.b 5,T2.GC P2),(L.b 5,GC P1)]) hp10 ⟨
     oM,oCS (fun L=>#[.slice (some ⟨(L2.b 0),0,none⟩) 48 48]) (fun L w hs=>by have h:=ref5Take1 R _ 48 48 (su (su (fun _=>0) 0 tv) j vb) w (box_at (seen_at hs (k:=0) rfl)) hr1;rw [ht1] at h;exact h),
     oM,oX,oX,oZ rG,oT rG,oA,
     trivial⟩ (fun L10 d10 w11 hp11=>?_)
    refine sgsD [.det (.slice (some ⟨(L2.b 1),0,none⟩) 96 96),.det (.tuple #[T2.GV P2,.int .i64 e2]),.det (.tuple #[T2.GV P2,.int .i64 e2]),.det (T2.GV P2),.det (.int .i64 e2),.alloc (T2.GC ⟨0,0,false⟩),.store (.new 5) 0 (T2.GC P2) (T2.GC P2),.det (.int .i64 e2)] (Pl.nn 8) [0,1,3,7,7,0,47,127] (fun L d=>D d 0 9++([L6.p 5,.int .i64 e1,L7.p 5,.int .i64 e2,L10.p 5,.int .i64 e1,L.p 5,.int .i64 e2]++D d 17 114)) (fun L=>[(L2.b 0,BC (su (su (fun _=>0) 0 tv) j vb) 48),(L2.b 1,BC (su (su (fun _=>0) 0 tv) j vb) 96),(L6.b 5,GC P1),(L7.b 5,T2.GC P2),(L10.b 5,GC P1),(L.b 5,T2.GC P2)]) hp11 ⟨
     oM,oCS (fun L=>#[.slice (some ⟨(L2.b 1),0,none⟩) 96 96]) (fun L w hs=>by have h:=T2.ref5Take2 R _ 96 96 (su (su (fun _=>0) 0 tv) j vb) w (box_at (seen_at hs (k:=1) rfl)) hr2;rw [ht2] at h;exact h),
     oM,oX,oX,oZ T2.rG,oT T2.rG,oA,
     trivial⟩ (fun L11 d11 w12 hp12=>?_)
    refine sgsD [.det (.int .i64 e1),.det (.int .i64 e1),.det (.bool true),.det (.bool true),.det (GV P1),.det (GV P1),.det (.bool true),.det (.bool true),.det (.bool true),.det (.int .i64 e2),.det (.int .i64 e2),.det (.bool true),.det (.bool true),.det (.bool true),.det (T2.GV P2),.det (T2.GV P2),.det (.bool true),.det (.bool true),.det (.bool true)] (Pl.nn 19) [0,0,3,7,15,15,63,127,255,511,511,2047,4095,8191,16383,16383,65535,131071,262143] (fun L d=>D d 0 6++([.bool true]++D d 7 124)) (fun L=>[(L2.b 0,BC (su (su (fun _=>0) 0 tv) j vb) 48),(L2.b 1,BC (su (su (fun _=>0) 0 tv) j vb) 96),(L6.b 5,GC P1),(L7.b 5,T2.GC P2),(L10.b 5,GC P1),(L11.b 5,T2.GC P2)]) hp12 ⟨
     oM,oM,oJ .i64 .i64 e1 e1 (h:=fun w=>(eqlI _ _ _ _ w).trans (by rw [decide_eq_true rfl])),oM,oL 2 0 rG,oL 4 0 rG,oE (a:=P1) (b:=P1) qG (yes rfl),
     oP,oM,oM,oM,oJ .i64 .i64 e2 e2 (h:=fun w=>(eqlI _ _ _ _ w).trans (by rw [decide_eq_true rfl])),oP,oM,oL 3 0 T2.rG,oL 5 0 T2.rG,oE (a:=P2) (b:=P2) T2.qG (yes rfl),
     oP,oA,
     trivial⟩ (fun L12 d12 w13 hp13=>?_)
    refine wp_ret ?_
    refine bodyPost_ret (v:=.bool true) ?_ rfl ?_
    ·exact res_t rfl (by kernel_rfl) _
    ·exact ⟨fin4 h1q h2q h3q,hp13.bel⟩
end Go.Proofs.YtmibajbpimcfnaaGreatDoor.fpn
/- PointHeads walked. -/
namespace Go.Proofs.YtmibajbpimcfnaaGreatDoor.fpn
open Go.RowKit Pl EC
theorem or_tab:∀ (t:Fin 8) (x:Fin 32),bits .or .u8 ((t.val:Int)*32) (x.val:Int)=(t.val:Int)*32+x.val:=by decide +kernel
theorem or_low {t x:Int} (ht:0≤t∧t<8) (hx:0≤x∧x<32):bits .or .u8 (t*32) x=t*32+x:=by
 have:=or_tab ⟨t.toNat,by omega⟩ ⟨x.toNat,by omega⟩
 rwa [show (((⟨t.toNat,by omega⟩:Fin 8).val:Nat):Int)=t from Int.toNat_of_nonneg ht.1,show (((⟨x.toNat,by omega⟩:Fin 32).val:Nat):Int)=x from Int.toNat_of_nonneg hx.1] at this
def hF (t x:Int) (j:Nat):Nat→Int:=su (su (fun _=>0) 0 (t*32)) j (bits .or .u8 (su (fun _=>0) 0 (t*32) j) x)
theorem hF_v {t x:Int} {j:Nat} (ht:0≤t∧t<8) (hx:0≤x∧x<32):bits .or .u8 (su (fun _=>0) 0 (t*32) j) x=(if j=0 then t*32+x else x):=by
 by_cases h:j=0
 ·subst h;rw [su_at,if_pos rfl];exact or_low ht hx
 ·rw [su_ne h,if_neg h]
  have:=or_low (t:=0) ⟨by decide,by decide⟩ hx
  rwa [Int.zero_mul,Int.zero_add] at this
theorem hF_at {t x:Int} {j:Nat} (ht:0≤t∧t<8) (hx:0≤x∧x<32) (i:Nat):hF t x j i=(if i=0 then t*32 else 0)+(if i=j then x else 0):=by
 unfold hF
 by_cases h:i=j
 ·subst h
  rw [su_at,hF_v ht hx,if_pos rfl]
  by_cases h0:i=0
  ·rw [if_pos h0,if_pos h0]
  ·rw [if_neg h0,if_neg h0,Int.zero_add]
 ·rw [su_ne h,if_neg h,Int.add_zero]
  by_cases h0:i=0
  ·subst h0;rw [su_at,if_pos rfl]
  ·rw [su_ne h0,if_neg h0]
theorem hF_rg {t x:Int} {j:Nat} (ht:0≤t∧t<8) (hx:0≤x∧x<32) (i:Nat):0≤hF t x j i∧hF t x j i<256:=by
 rw [hF_at ht hx]
 split<;>split<;>omega
theorem hF_0 {t x:Int} {j:Nat} (ht:0≤t∧t<8) (hx:0≤x∧x<32):hF t x j 0 / 32=t∧hF t x j 0%32=(if 0=j then x else 0):=by
 rw [hF_at ht hx,if_pos rfl]
 split<;>omega
theorem hF_su {t x:Int} {j:Nat} (ht:0≤t∧t<8) (hx:0≤x∧x<32) (i:Nat):su (hF t x j) 0 (hF t x j 0%32) i=(if i=j then x else 0):=by
 by_cases h:i=0
 ·subst h;rw [su_at];exact (hF_0 ht hx).2
 ·rw [su_ne h,hF_at ht hx,if_neg h,Int.zero_add]
theorem hF_hdz {t x:Int} {j:Nat} (ht:0≤t∧t<8) (hx:0≤x∧x<32) {n:Nat} (hj:j<n):hdz (hF t x j) n=(decide (x=0) && !decide (t=7)):=by
 unfold hdz
 rw [(hF_0 ht hx).1]
 by_cases h0:x=0
 ·rw [decide_eq_true h0]
  by_cases h7:t=7
  ·rw [decide_eq_true h7];exact decide_eq_false fun h=>h.2 h7
  ·rw [decide_eq_false h7];exact decide_eq_true ⟨fun i _=>by rw [hF_su ht hx,h0];split<;>rfl,h7⟩
 ·rw [decide_eq_false h0]
  exact decide_eq_false fun h=>h0 (by have:=h.1 j hj;rwa [hF_su ht hx,if_pos rfl] at this)
theorem tkA_hF {t x:Int} {j:Nat} (ht:0≤t∧t<8) (hx:0≤x∧x<32) (hj:j<48) (h4:¬ (4≤t∧t<6)):tkA (hF t x j) 48=(if t=6∧x=0 then .tuple #[GV ⟨0,0,true⟩,.int .i64 0] else tkE 3):=by
 unfold tkA
 rw [if_neg (by decide),if_neg (by decide),(hF_0 ht hx).1]
 by_cases hl:t<4
 ·rw [if_pos hl,if_neg (by omega)]
 ·rw [if_neg hl,if_pos (by omega),hF_hdz ht hx hj]
  by_cases h:t=6∧x=0
  ·rw [if_pos h,decide_eq_true h.2,decide_eq_false (by omega)];rfl
  ·rw [if_neg h]
   by_cases h0:x=0
   ·rw [decide_eq_true h0,decide_eq_true (show t=7 by omega)];rfl
   ·rw [decide_eq_false h0];rfl
theorem tkB_hF {t x:Int} {j:Nat} (ht:0≤t∧t<8) (hx:0≤x∧x<32) (hj:j<48) (h4:¬ (4≤t∧t<6)):T2.tkB (hF t x j) 96=(if t=6∧x=0 then .tuple #[T2.GV ⟨0,0,true⟩,.int .i64 0] else T2.tkF 3):=by
 unfold T2.tkB
 rw [if_neg (by decide),if_neg (by decide),(hF_0 ht hx).1]
 by_cases hl:t<4
 ·rw [if_pos hl,if_neg (by omega)]
 ·rw [if_neg hl,if_pos (by omega),hF_hdz ht hx (show j<96 by omega)]
  by_cases h:t=6∧x=0
  ·rw [if_pos h,decide_eq_true h.2,decide_eq_false (by omega)];rfl
  ·rw [if_neg h]
   by_cases h0:x=0
   ·rw [decide_eq_true h0,decide_eq_true (show t=7 by omega)];rfl
   ·rw [decide_eq_false h0];rfl
theorem tup_inj' {a b:Value} {x y:Int} (h:(.tuple #[a,.int .i64 x]:Value)=.tuple #[b,.int .i64 y]):a=b∧x=y:=by
 simpa using h
theorem GV_inj {a b:G1p} (h:GV a=GV b):a=b:=by
 have e:=eqlG a b default
 rw [h] at e
 have e2:=eqlG b b default
 rw [e] at e2
 simpa using e2
theorem T2.GV_inj {a b:T2.G2p} (h:T2.GV a=T2.GV b):a=b:=by
 have e:=T2.eqlG a b default
 rw [h] at e
 have e2:=T2.eqlG b b default
 rw [e] at e2
 simpa using e2
theorem pointHeads_walk {G:World→Prop} (K:PtK G) (R:RefK) (tp at_ xb:Nat) (w:World) (hg:G w) (h1:tp<256) (h2:at_<256) (h3:xb<256):Calls Tryz.prog 8 #[.int .u8 ((tp:Nat):Int),.int .u8 ((at_:Nat):Int),.int .u8 ((xb:Nat):Int)] w (Ret (.bool true) w):=by
 obtain ⟨t,et⟩:∃ t:Int,((tp:Nat):Int)%8=t:=⟨_,rfl⟩
 obtain ⟨x,ex⟩:∃ x:Int,((xb:Nat):Int)%32=x:=⟨_,rfl⟩
 obtain ⟨j,ej⟩:∃ j:Nat,at_%48=j:=⟨_,rfl⟩
 have ht:0≤t∧t<8:=by omega
 have hx:0≤x∧x<32:=by omega
 have hj:j<48:=by omega
 have hv:0≤t*32∧t*32<256:=by omega
 have r1:∀ i,i<48→0≤hF t x j i∧hF t x j i<256:=fun i _=>hF_rg ht hx i
 have r2:∀ i,i<96→0≤hF t x j i∧hF t x j i<256:=fun i _=>hF_rg ht hx i
 obtain ⟨P1,e1,q1⟩:=tk_some1 (hF t x j) 48
 obtain ⟨P2,e2,q2⟩:=tk_some2 (hF t x j) 96
 have hAB:(¬ (4≤t∧t<6))→(if t=6∧x=0 then P1=⟨0,0,true⟩∧e1=0∧P2=⟨0,0,true⟩∧e2=0 else e1=3∧e2=3):=fun h4=>by
  have a:=(tkA_hF ht hx hj h4).symm.trans q1
  have b:=(tkB_hF ht hx hj h4).symm.trans q2
  by_cases h:t=6∧x=0
  ·rw [if_pos h] at a b ⊢
   obtain ⟨a1,a2⟩:=tup_inj' a
   obtain ⟨b1,b2⟩:=tup_inj' b
   exact ⟨(GV_inj a1).symm,a2.symm,(T2.GV_inj b1).symm,b2.symm⟩
  ·rw [if_neg h] at a b ⊢
   exact ⟨(tup_inj' a).2.symm,(tup_inj' b).2.symm⟩
 exact headsAll K R tp at_ xb j t _ x _ P1 P2 e1 e2 w hg ej hj h2 et rfl hv ex rfl r1 r2 q1 q2 (fun h=>by have:=hAB (by omega);rwa [if_neg (by omega)] at this) (fun h6 h0=>by have:=hAB (by omega);rwa [if_pos ⟨h6,h0⟩] at this)
end Go.Proofs.YtmibajbpimcfnaaGreatDoor.fpn
