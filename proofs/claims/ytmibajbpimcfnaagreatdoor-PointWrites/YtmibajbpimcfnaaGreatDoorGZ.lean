/- Texts laid together. -/
import Derived.Test.YtmibajbpimcfnaaGreatDoorGX
import Derived.Test.YtmibajbpimcfnaaGreatDoorGR
import Derived.Test.YtmibajbpimcfnaaGreatDoorGG
import Derived.Test.YtmibajbpimcfnaaGreatDoorGQ
import Derived.Test.YtmibajbpimcfnaaGreatDoorGE
set_option linter.unusedVariables false
set_option linter.unusedSimpArgs false
set_option maxRecDepth 4000
set_option maxHeartbeats 4000000
/- Points of G2 as bytes: what the reference writes. -/
namespace Go.Proofs.YtmibajbpimcfnaaGreatDoor.fpn.T2
open Go.RowKit Pl EC
def ptx2:Pt F2→Nat→Int
 | .inf=>fun j=>bif Nat.beq j 0 then 192 else 0
 | .aff x y=>su (cat (pb x.c1) 48 (pb x.c0)) 0 (pb x.c1 0+(bif F2.great y then 160 else 128))
theorem ref5Put2i (R:RefK)  (w:World):Calls Tryz.prog 22 #[GV ⟨0,0,true⟩] w (RetB (ptx2 .inf) 96 w):=by
 have fin0:BC (su (fun _=>0) 0 192) 96=BC (ptx2 .inf) 96:=by subst_vars;kernel_rfl
 have hp0:=Heap.start w
 go_enter Tryz.func22,Tryz.ntmps22
 refine sgsD [.alloc (GC ⟨0,0,true⟩),.det (.slice none 0 0)] [0,1] [0,0] (fun L d=>[d 0,L.p 0]++D d 2 30) (fun L=>[(L.b 0,GC ⟨0,0,true⟩)]) hp0 ⟨
  oB,oA,
  trivial⟩ (fun L0 d0 w1 hp1=>?_)
 refine wp_seq_k (fun K2 k2=>?_)
 refine drA [.det (L0.p 0),.det (pt (L0.b 0) 6),.det (FV 0),.any (isC w.heap.size [L0.b 0] (pb 0) 48),.det (L0.p 0),.det (L0.p 0),.det (FV 0),.any (isC w.heap.size [L0.b 0] (pb 0) 48),.any (isB w.heap.size [L0.b 0] (cat (pb 0) 48 (pb 0)) 96),.detV 8 (fun v=>v)] (nn 10) [0,1,3,7,0,16,48,127,255,511] (fun L=>[d0 0,L0.p 0,d0 2,L.v 8,L0.p 0,pt (L0.b 0) 6,FV 0,L.v 3,L0.p 0,L0.p 0,FV 0,L.v 7,L.v 8]++D d0 13 19) (fun L=>[(L0.b 0,GC ⟨0,0,true⟩)]) hp1 ⟨
  oF fG0,oI aP,oL 0 6 rF,oY (fun L=>#[FV 0]) (fun _ _ _ h hb=>h.stay hb) (fun L w hs=>newC hs [L0.b 0] (refPutC 0 w)),oF fG0,oI aP,oL 0 0 rF,oY (fun L=>#[FV 0]) (fun _ _ _ h hb=>h.stay hb) (fun L w hs=>newC hs [L0.b 0] (refPutC 0 w)),
  oApC (f:=pb 0) (g:=pb 0) (m:=48) (n:=48) (bs1:=[L0.b 0]) (bs2:=[L0.b 0]) [L0.b 0] 3 7 (by decide) (by decide),oAV,
  trivial⟩ (fun L1 w2 hp2 ha2=>?_)
 obtain ⟨kb1b8,cb1b8,eb1b8,lb1b8,mb1b8,qb1b8,ub1b8,xb1b8⟩:=AnyF.at ha2 (j:=8) rfl rfl
 rw [eb1b8]
 have hp21b8:=Heap.add hp2 qb1b8 ub1b8 xb1b8
 refine k2 _ _ ?_
 refine wp_seq_k (fun K3 k3=>?_)
 refine sgsD [.det (pt (L0.b 0) 24),.det (.bool true)] [0,1] [0,1] (fun L d=>D d 0 14++([.bool true]++D d 15 17)) (fun L=>[(L0.b 0,GC ⟨0,0,true⟩),(kb1b8,BC (cat (pb 0) 48 (pb 0)) 96)]) hp21b8 ⟨
  oF fG2,oL1 0 24 oneB,
  trivial⟩ (fun L2 d2 w3 hp3=>?_)
 refine cT ?_
 refine sgsD [.alloc (BC (fun _=>0) 96),.detB 0 (fun b=>.slice (some ⟨b,0,none⟩) 96 96)] [0,1] [0,1] (fun L d=>D d 0 3++([.slice (some ⟨L.b 0,0,none⟩) 96 96]++D d 4 28)) (fun L=>[(L0.b 0,GC ⟨0,0,true⟩),(kb1b8,BC (cat (pb 0) 48 (pb 0)) 96),(L.b 0,BC (fun _=>0) 96)]) hp3 ⟨
  oMa (by decide) (by decide),oAN,
  trivial⟩ (fun L3 d3 w4 hp4=>?_)
 refine gsD [.det (.slice (some ⟨(L3.b 0),0,none⟩) 96 96),.det (L3.p 0),.store (.base 2) 0 ([.int .u8 64]) (BC (su (fun _=>0) 0 64) 96)] [0,1,2] [0,1,3] (fun L d=>D d 0 3++([.slice (some ⟨(L3.b 0),0,none⟩) 96 96]++D d 4 28)) (fun L=>[(L0.b 0,GC ⟨0,0,true⟩),(kb1b8,BC (cat (pb 0) 48 (pb 0)) 96),(L3.b 0,BC (su (fun _=>0) 0 64) 96)]) hp4 ⟨
  oM,oIS (b:=(L3.b 0)) (off:=0) (n:=96) (c:=96) (sz:=1) 0 Tryz.underlying45 sizeY (by decide),oT1 oneY,
  trivial⟩ (fun L4 d4 w5 hp5=>?_)
 refine k3 _ _ ?_
 refine sgsD [.det (.slice (some ⟨(L3.b 0),0,none⟩) 96 96),.det (L3.p 0),.det (.int .u8 64),.det (.int .u8 192),.det (L3.p 0),.store (.base 2) 0 ([.int .u8 192]) (BC (su (fun _=>0) 0 192) 96)] (nn 6) [0,1,3,7,15,31] (fun L d=>D d 0 3++([.slice (some ⟨(L3.b 0),0,none⟩) 96 96]++D d 4 28)) (fun L=>[(L0.b 0,GC ⟨0,0,true⟩),(kb1b8,BC (cat (pb 0) 48 (pb 0)) 96),(L3.b 0,BC (su (fun _=>0) 0 192) 96)]) hp5 ⟨
  oM,oIS (b:=(L3.b 0)) (off:=0) (n:=96) (c:=96) (sz:=1) 0 Tryz.underlying45 sizeY (by decide),oL1 2 0 oneY,oJ .u8 .u8 64 128 (h:=fun w=>addY _ _ _ _ (by decide) (by decide) w),
  oIS (b:=(L3.b 0)) (off:=0) (n:=96) (c:=96) (sz:=1) 0 Tryz.underlying45 sizeY (by decide),oT1 oneY,
  trivial⟩ (fun L5 d5 w6 hp6=>?_)
 refine sgsD [.det (.slice (some ⟨(L3.b 0),0,none⟩) 96 96),.det (.slice (some ⟨(L3.b 0),0,none⟩) 96 96)] [0,1] [0,1] (fun L d=>D d 0 2++([.slice (some ⟨(L3.b 0),0,none⟩) 96 96]++D d 3 29)) (fun L=>[(L0.b 0,GC ⟨0,0,true⟩),(kb1b8,BC (cat (pb 0) 48 (pb 0)) 96),(L3.b 0,BC (su (fun _=>0) 0 192) 96)]) hp6 ⟨
  oM,oA,
  trivial⟩ (fun L6 d6 w7 hp7=>?_)
 refine wp_ret ?_
 refine bodyPost_ret (v:=.slice (some ⟨(L3.b 0),0,none⟩) 96 96) ?_ rfl ?_
 ·exact res_t rfl (by kernel_rfl) _
 ·exact ⟨_,rfl,⟨(L3.b 0),96,rfl,Nat.le_refl _,by decide,(hp7.bound 2 rfl).1,(fun b hb=>by cases hb),box_eq fin0 (hp7.bound 2 rfl).2⟩,hp7.bel⟩
theorem ref5Put2a (R:RefK) (x y:F2) (w:World):Calls Tryz.prog 22 #[GV ⟨x,y,false⟩] w (RetB (ptx2 (.aff x y)) 96 w):=by
 have fin0:(F2.great y)=true→BC (su (cat (pb x.c1) 48 (pb x.c0)) 0 (pb x.c1 0+160)) 96=BC (ptx2 (.aff x y)) 96:=by subst_vars;intro h1q;show _=BC (su (cat (pb x.c1) 48 (pb x.c0)) 0 (pb x.c1 0+(bif F2.great y then 160 else 128))) 96;rw [h1q];kernel_rfl
 have fin1:(F2.great y)=false→BC (su (cat (pb x.c1) 48 (pb x.c0)) 0 (pb x.c1 0+128)) 96=BC (ptx2 (.aff x y)) 96:=by subst_vars;intro h1q;show _=BC (su (cat (pb x.c1) 48 (pb x.c0)) 0 (pb x.c1 0+(bif F2.great y then 160 else 128))) 96;rw [h1q];kernel_rfl
 have hp0:=Heap.start w
 go_enter Tryz.func22,Tryz.ntmps22
 refine sgsD [.alloc (GC ⟨x,y,false⟩),.det (.slice none 0 0)] [0,1] [0,0] (fun L d=>[d 0,L.p 0]++D d 2 30) (fun L=>[(L.b 0,GC ⟨x,y,false⟩)]) hp0 ⟨
  oB,oA,
  trivial⟩ (fun L0 d0 w1 hp1=>?_)
 refine wp_seq_k (fun K2 k2=>?_)
 refine drA [.det (L0.p 0),.det (pt (L0.b 0) 6),.det (FV x.c1),.any (isC w.heap.size [L0.b 0] (pb x.c1) 48),.det (L0.p 0),.det (L0.p 0),.det (FV x.c0),.any (isC w.heap.size [L0.b 0] (pb x.c0) 48),.any (isB w.heap.size [L0.b 0] (cat (pb x.c1) 48 (pb x.c0)) 96),.detV 8 (fun v=>v)] (nn 10) [0,1,3,7,0,16,48,127,255,511] (fun L=>[d0 0,L0.p 0,d0 2,L.v 8,L0.p 0,pt (L0.b 0) 6,FV x.c1,L.v 3,L0.p 0,L0.p 0,FV x.c0,L.v 7,L.v 8]++D d0 13 19) (fun L=>[(L0.b 0,GC ⟨x,y,false⟩)]) hp1 ⟨
  oF fG0,oI aP,oL 0 6 rF,oY (fun L=>#[FV x.c1]) (fun _ _ _ h hb=>h.stay hb) (fun L w hs=>newC hs [L0.b 0] (refPutC x.c1 w)),oF fG0,oI aP,oL 0 0 rF,
  oY (fun L=>#[FV x.c0]) (fun _ _ _ h hb=>h.stay hb) (fun L w hs=>newC hs [L0.b 0] (refPutC x.c0 w)),oApC (f:=pb x.c1) (g:=pb x.c0) (m:=48) (n:=48) (bs1:=[L0.b 0]) (bs2:=[L0.b 0]) [L0.b 0] 3 7 (by decide) (by decide),
  oAV,
  trivial⟩ (fun L1 w2 hp2 ha2=>?_)
 obtain ⟨kb1b8,cb1b8,eb1b8,lb1b8,mb1b8,qb1b8,ub1b8,xb1b8⟩:=AnyF.at ha2 (j:=8) rfl rfl
 rw [eb1b8]
 have hp21b8:=Heap.add hp2 qb1b8 ub1b8 xb1b8
 refine k2 _ _ ?_
 refine wp_seq_k (fun K3 k3=>?_)
 refine sgsD [.det (pt (L0.b 0) 24),.det (.bool false)] [0,1] [0,1] (fun L d=>[d 0,L0.p 0,d 2,.slice (some ⟨kb1b8,0,none⟩) 96 cb1b8]++(D d 4 10++([.bool false]++D d 15 17))) (fun L=>[(L0.b 0,GC ⟨x,y,false⟩),(kb1b8,BC (cat (pb x.c1) 48 (pb x.c0)) 96)]) hp21b8 ⟨
  oF fG2,oL1 0 24 oneB,
  trivial⟩ (fun L2 d2 w3 hp3=>?_)
 refine cF ?_
 refine sgsD [.det (pt (L0.b 0) 12),.det (PV y),.det (.bool (F2.great y))] [0,1,2] [0,1,3] (fun L d=>D d 0 3++([.slice (some ⟨kb1b8,0,none⟩) 96 cb1b8]++(D d 4 16++([.bool (F2.great y)]++D d 21 11)))) (fun L=>[(L0.b 0,GC ⟨x,y,false⟩),(kb1b8,BC (cat (pb x.c1) 48 (pb x.c0)) 96)]) hp3 ⟨
  oF fG1,oL 0 12 rP,oR (ref5Great2 R y),
  trivial⟩ (fun L3 d3 w4 hp4=>?_)
 rcases Bool.eq_false_or_eq_true (F2.great y) with h1q | h1q
 ·skip
  refine cond_t h1q ?_
  refine gsD [.det (.slice (some ⟨kb1b8,0,none⟩) 96 cb1b8),.det (pt kb1b8 0),.det (.int .u8 (pb x.c1 0)),.det (.int .u8 (pb x.c1 0+32)),.det (pt kb1b8 0),.store (.base 1) 0 ([.int .u8 (pb x.c1 0+32)]) (BC (su (cat (pb x.c1) 48 (pb x.c0)) 0 (pb x.c1 0+32)) 96)] (nn 6) [0,1,3,7,15,31] (fun L d=>D d 0 3++([.slice (some ⟨kb1b8,0,none⟩) 96 cb1b8]++D d 4 28)) (fun L=>[(L0.b 0,GC ⟨x,y,false⟩),(kb1b8,BC (su (cat (pb x.c1) 48 (pb x.c0)) 0 (pb x.c1 0+32)) 96)]) hp4 ⟨
   oM,oIS (b:=kb1b8) (off:=0) (n:=96) (c:=cb1b8) (sz:=1) 0 Tryz.underlying45 sizeY (by decide),oL1 1 0 oneY,oJ .u8 .u8 (pb x.c1 0) 32 (h:=fun w=>addY _ _ _ _ (by omega) (by have:=pb_top x.c1;omega) w),
   oIS (b:=kb1b8) (off:=0) (n:=96) (c:=cb1b8) (sz:=1) 0 Tryz.underlying45 sizeY (by decide),oT1 oneY,
   trivial⟩ (fun L4 d4 w5 hp5=>?_)
  refine k3 _ _ ?_
  refine sgsD [.det (.slice (some ⟨kb1b8,0,none⟩) 96 cb1b8),.det (pt kb1b8 0),.det (.int .u8 (pb x.c1 0+32)),.det (.int .u8 (pb x.c1 0+160)),.det (pt kb1b8 0),.store (.base 1) 0 ([.int .u8 (pb x.c1 0+160)]) (BC (su (cat (pb x.c1) 48 (pb x.c0)) 0 (pb x.c1 0+160)) 96)] (nn 6) [0,1,3,7,15,31] (fun L d=>D d 0 3++([.slice (some ⟨kb1b8,0,none⟩) 96 cb1b8]++D d 4 28)) (fun L=>[(L0.b 0,GC ⟨x,y,false⟩),(kb1b8,BC (su (cat (pb x.c1) 48 (pb x.c0)) 0 (pb x.c1 0+160)) 96)]) hp5 ⟨
   oM,oIS (b:=kb1b8) (off:=0) (n:=96) (c:=cb1b8) (sz:=1) 0 Tryz.underlying45 sizeY (by decide),oL1 1 0 oneY,oJ .u8 .u8 (pb x.c1 0+32) 128 (h:=fun w=>addY _ _ _ _ (by omega) (by have:=pb_top x.c1;omega) w),
   oIS (b:=kb1b8) (off:=0) (n:=96) (c:=cb1b8) (sz:=1) 0 Tryz.underlying45 sizeY (by decide),oT1 oneY,
   trivial⟩ (fun L5 d5 w6 hp6=>?_)
  refine sgsD [.det (.slice (some ⟨kb1b8,0,none⟩) 96 cb1b8),.det (.slice (some ⟨kb1b8,0,none⟩) 96 cb1b8)] [0,1] [0,1] (fun L d=>D d 0 2++([.slice (some ⟨kb1b8,0,none⟩) 96 cb1b8]++D d 3 29)) (fun L=>[(L0.b 0,GC ⟨x,y,false⟩),(kb1b8,BC (su (cat (pb x.c1) 48 (pb x.c0)) 0 (pb x.c1 0+160)) 96)]) hp6 ⟨
   oM,oA,
   trivial⟩ (fun L6 d6 w7 hp7=>?_)
  refine wp_ret ?_
  refine bodyPost_ret (v:=.slice (some ⟨kb1b8,0,none⟩) 96 cb1b8) ?_ rfl ?_
  ·exact res_t rfl (by kernel_rfl) _
  ·exact ⟨_,rfl,⟨kb1b8,cb1b8,rfl,lb1b8,mb1b8,qb1b8,(fun b hb=>by cases hb),box_eq (fin0 h1q) (hp7.bound 1 rfl).2⟩,hp7.bel⟩
 ·skip
  refine cond_f h1q ?_
  refine skips ?_
  refine k3 _ _ ?_
  refine sgsD [.det (.slice (some ⟨kb1b8,0,none⟩) 96 cb1b8),.det (pt kb1b8 0),.det (.int .u8 (pb x.c1 0)),.det (.int .u8 (pb x.c1 0+128)),.det (pt kb1b8 0),.store (.base 1) 0 ([.int .u8 (pb x.c1 0+128)]) (BC (su (cat (pb x.c1) 48 (pb x.c0)) 0 (pb x.c1 0+128)) 96)] (nn 6) [0,1,3,7,15,31] (fun L d=>D d 0 3++([.slice (some ⟨kb1b8,0,none⟩) 96 cb1b8]++D d 4 28)) (fun L=>[(L0.b 0,GC ⟨x,y,false⟩),(kb1b8,BC (su (cat (pb x.c1) 48 (pb x.c0)) 0 (pb x.c1 0+128)) 96)]) hp4 ⟨
   oM,oIS (b:=kb1b8) (off:=0) (n:=96) (c:=cb1b8) (sz:=1) 0 Tryz.underlying45 sizeY (by decide),oL1 1 0 oneY,oJ .u8 .u8 (pb x.c1 0) 128 (h:=fun w=>addY _ _ _ _ (by omega) (by have:=pb_top x.c1;omega) w),
   oIS (b:=kb1b8) (off:=0) (n:=96) (c:=cb1b8) (sz:=1) 0 Tryz.underlying45 sizeY (by decide),oT1 oneY,
   trivial⟩ (fun L4 d4 w5 hp5=>?_)
  refine sgsD [.det (.slice (some ⟨kb1b8,0,none⟩) 96 cb1b8),.det (.slice (some ⟨kb1b8,0,none⟩) 96 cb1b8)] [0,1] [0,1] (fun L d=>D d 0 2++([.slice (some ⟨kb1b8,0,none⟩) 96 cb1b8]++D d 3 29)) (fun L=>[(L0.b 0,GC ⟨x,y,false⟩),(kb1b8,BC (su (cat (pb x.c1) 48 (pb x.c0)) 0 (pb x.c1 0+128)) 96)]) hp5 ⟨
   oM,oA,
   trivial⟩ (fun L5 d5 w6 hp6=>?_)
  refine wp_ret ?_
  refine bodyPost_ret (v:=.slice (some ⟨kb1b8,0,none⟩) 96 cb1b8) ?_ rfl ?_
  ·exact res_t rfl (by kernel_rfl) _
  ·exact ⟨_,rfl,⟨kb1b8,cb1b8,rfl,lb1b8,mb1b8,qb1b8,(fun b hb=>by cases hb),box_eq (fin1 h1q) (hp6.bound 1 rfl).2⟩,hp6.bel⟩
theorem ref5Put2 (R:RefK) (P:Pt F2) (w:World):Calls Tryz.prog 22 #[GV (gp P)] w (RetB (ptx2 P) 96 w):=by
 cases P with
 | inf=>exact ref5Put2i R w
 | aff x y=>exact ref5Put2a R x y w
end Go.Proofs.YtmibajbpimcfnaaGreatDoor.fpn.T2
/- What Take2 answers. -/
namespace Go.Proofs.YtmibajbpimcfnaaGreatDoor.fpn.T2
open Go.RowKit Pl EC
def tkF (e:Int):Value:=.tuple #[GV ⟨0,0,false⟩,.int .i64 e]
noncomputable def tk2 (a:F2) (gr:Bool):Value :=
 bif F2.is2 (a*a*a+b2) then
  bif decide (F2.sq2 (a*a*a+b2)=0) && gr then tkF 3 else
  bif gr then (bif decide (mul F2.inv ordR (.aff a (-F2.sq2 (a*a*a+b2)))=.inf) then .tuple #[GV ⟨a,-F2.sq2 (a*a*a+b2),false⟩,.int .i64 0] else tkF 6)
  else (bif decide (mul F2.inv ordR (.aff a (F2.sq2 (a*a*a+b2)))=.inf) then .tuple #[GV ⟨a,F2.sq2 (a*a*a+b2),false⟩,.int .i64 0] else tkF 6)
 else tkF 5
noncomputable def tkB (g:Nat→Int) (n:Nat):Value :=
 if n<96 then tkF 2 else if 96<n then tkF 8 else if g 0 / 32<4 then tkF 3
 else if 6≤g 0 / 32 then (bif hdz g 96 then .tuple #[GV ⟨0,0,true⟩,.int .i64 0] else tkF 3)
 else if bv (fun j=>(su g 0 (g 0%32)) (0+j)) 48<RI then (if bv (fun j=>(su g 0 (g 0%32)) (48+j)) 48<RI then tk2 ⟨ofB (fun j=>(su g 0 (g 0%32)) (48+j)),ofB (fun j=>(su g 0 (g 0%32)) (0+j))⟩ (decide (g 0 / 32=5)) else tkF 4) else tkF 4
end Go.Proofs.YtmibajbpimcfnaaGreatDoor.fpn.T2
