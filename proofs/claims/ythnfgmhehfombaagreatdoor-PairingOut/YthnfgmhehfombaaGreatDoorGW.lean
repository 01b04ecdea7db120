/- Texts laid together. -/
import Derived.Test.YthnfgmhehfombaaGreatDoorGM
import Derived.Test.YthnfgmhehfombaaGreatDoorGC
set_option linter.unusedVariables false
set_option linter.unusedSimpArgs false
set_option maxRecDepth 4000
set_option maxHeartbeats 4000000
/- Points out of numbers. -/
namespace Go.Proofs.YthnfgmhehfombaaGreatDoor.fpn
open Go.RowKit Pl EC
def ofn (k:Nat):F:=Fin.ofNat RN k
def ocube (k:Nat):F:=ofn k*ofn k*ofn k+4
theorem refOfN (R:RefK) (k:Nat) (w:World) (hk:k<2000000):Calls Tryz.prog 43 #[.int .u64 ((k:Nat):Int)] w (Ret (FV (ofn k)) w) :=
 Calls.mono (refOf_any (k:Int) w) fun e w' ⟨h1,h2⟩=>⟨by
  rw [h1]
  have hv:(ofn k).val=k:=Nat.mod_eq_of_lt (Nat.lt_trans hk (by decide +kernel))
  have h0:lb k 0=(k:Int):=by unfold lb;simp [Nat.mod_eq_of_lt (show k<18446744073709551616 by omega)]
  have hj:∀ j,0<j→lb k j=0:=fun j hj=>by
   unfold lb
   have:k / 2^(64*j)=0:=Nat.div_eq_of_lt (Nat.lt_of_lt_of_le (show k<2^64 by omega) (Nat.pow_le_pow_right (by decide) (by omega)))
   rw [this];rfl
  rw [FV_agg,hv,h0,hj 1 (by decide),hj 2 (by decide),hj 3 (by decide),hj 4 (by decide),hj 5 (by decide)],h2⟩
noncomputable def outAt (m:Nat):Nat→Nat→G1p × Bool
 | 0,_=>(⟨0,0,false⟩,false)
 | L+1,i=>if isq (ocube (m+i))=true then (⟨ofn (m+i),root (ocube (m+i)),false⟩,true) else outAt m L (i+1)
theorem out_yes {m L i:Nat} (h:isq (ocube (m+i))=true):outAt m (L+1) i=(⟨ofn (m+i),root (ocube (m+i)),false⟩,true):=if_pos h
theorem out_no {m L i:Nat} (h:isq (ocube (m+i))=false):outAt m (L+1) i=outAt m L (i+1):=if_neg (by rw [h];decide)
theorem out_or (m:Nat):∀ (L i:Nat),(∃ P:Pt F,On (4:F) P∧outAt m L i=(gp P,true))∨outAt m L i=(⟨0,0,false⟩,false)
 | 0,i=>.inr rfl
 | L+1,i=>by
  cases h:isq (ocube (m+i)) with
  | false=>rw [out_no h];exact out_or m L (i+1)
  | true =>
   refine .inl ⟨.aff (ofn (m+i)) (root (ocube (m+i))),?_,out_yes h⟩
   exact root_sq h
def outI (n:Nat) (w:World) (b2:Nat):Nat→Act→World→Prop:=fun L a' w'=>∃ (i:Nat) (u1 u5 u6 u7 u8 u9 u10 u11 u12 u13 u14 u15 u16 u17 u18 u19 u20 u21 u22 u23 u24 u25 u26 u27 u28 u29 u30 u31 u32:Value),
 a'={ tmps:=#[.int .u64 ((n:Nat):Int),u1,.pointer (some ⟨b2,0,none⟩),.bool false,.int .u64 ((i:Nat):Int),u5,u6,u7,u8,u9,u10,u11,u12,u13,u14,u15,u16,u17,u18,u19,u20,u21,u22,u23,u24,u25,u26,u27,u28,u29,u30,u31,u32],defers:=[] }∧i+L=20∧outAt (n%1000000) L i=outAt (n%1000000) 20 0∧Heap w.heap.size w w' [(b2,GC ⟨0,0,false⟩)]
theorem refOut (R:RefK) (n:Nat) (w:World) (hn:n<18446744073709551616):Calls Tryz.prog 22 #[.int .u64 ((n:Nat):Int)] w (Ret (.tuple #[GV (outAt (n%1000000) 20 0).1,.bool (outAt (n%1000000) 20 0).2]) w):=by
 have hp0:=Heap.start w
 go_enter Tryz.func22,Tryz.ntmps22
 refine sgs [.alloc (GC ⟨0,0,false⟩),.det (.bool false)] [0,1] [0,0] (fun L=>[.int .u64 ((n:Nat):Int),undef,L.p 0,.bool false]++U 29) (fun L=>[(L.b 0,GC ⟨0,0,false⟩)]) hp0 ⟨
  oZ rG,oA,
  trivial⟩ (fun L0 w1 hp1=>?_)
 refine wp_seq_k (fun K2 k2=>?_)
 refine sgs [.det (.int .u64 0)] [0] [0] (fun L=>[.int .u64 ((n:Nat):Int),undef,L0.p 0,.bool false,.int .u64 0]++U 28) (fun L=>[(L0.b 0,GC ⟨0,0,false⟩)]) hp1 ⟨
  oA,
  trivial⟩ (fun L1 w2 hp2=>?_)
 refine wp_block_k (fun K4 k4=>?_)
 refine wp_loop_ghost (outI n w (L0.b 0)) 20 ⟨0,undef,undef,undef,undef,undef,undef,undef,undef,undef,undef,undef,undef,undef,undef,undef,undef,undef,undef,undef,undef,undef,undef,undef,undef,undef,undef,undef,undef,undef,rfl,rfl,rfl,hp2⟩ ?_
 rintro L a' W ⟨i,u1,u5,u6,u7,u8,u9,u10,u11,u12,u13,u14,u15,u16,u17,u18,u19,u20,u21,u22,u23,u24,u25,u26,u27,u28,u29,u30,u31,u32,rfl,hL,hy,hJ⟩
 by_cases hL0:L=0
 rotate_left
 ·skip
  obtain ⟨m,rfl⟩:∃ m,L=m+1:=⟨L-1,by omega⟩
  cases hq:isq (ocube ((n%1000000)+i))
  ·skip
   refine wp_seq_k (fun K5 k5=>?_)
   refine sgs [.det (.int .u64 ((i:Nat):Int)),.det (.bool true)] [0,1] [0,1] (fun L=>[.int .u64 ((n:Nat):Int),u1,L0.p 0,.bool false,.int .u64 ((i:Nat):Int),u5,u6,u7,.int .u64 ((i:Nat):Int),.bool true,u10,u11,u12,u13,u14,u15,u16,u17,u18,u19,u20,u21,u22,u23,u24,u25,u26,u27,u28,u29,u30,u31,u32]) (fun L=>[(L0.b 0,GC ⟨0,0,false⟩)]) hJ ⟨
    oM,oJ .u64 .u64 ((i:Nat):Int) 20 (h:=fun w=>(lssU _ _ _ w).trans (by rw [decide_eq_true (by omega)])),
    trivial⟩ (fun L2 w3 hp3=>?_)
   refine cT ?_
   refine skips ?_
   refine k5 _ _ ?_
   refine wp_seq_k (fun K7 k7=>?_)
   refine wp_block_k (fun K8 k8=>?_)
   refine sgs [.det (.int .u64 ((n:Nat):Int)),.det (.int .u64 (((n%1000000):Nat):Int)),.det (.int .u64 ((i:Nat):Int)),.det (.int .u64 ((n%1000000+i:Nat):Int)),.det (FV (ofn ((n%1000000)+i))),.alloc (FC 0),.store (.new 5) 0 (FC (ofn ((n%1000000)+i))) (FC (ofn ((n%1000000)+i)))] (nn 7) [0,1,0,7,15,0,63] (fun L=>[.int .u64 ((n:Nat):Int),u1,L0.p 0,.bool false,.int .u64 ((i:Nat):Int),L.p 5,u6,u7,.int .u64 ((i:Nat):Int),.bool true,u10,u11,.int .u64 ((n:Nat):Int),.int .u64 (((n%1000000):Nat):Int),.int .u64 ((i:Nat):Int),.int .u64 ((n%1000000+i:Nat):Int),FV (ofn ((n%1000000)+i)),u17,u18,u19,u20,u21,u22,u23,u24,u25,u26,u27,u28,u29,u30,u31,u32]) (fun L=>[(L0.b 0,GC ⟨0,0,false⟩),(L.b 5,FC (ofn ((n%1000000)+i)))]) hp3 ⟨
    oM,oJ .u64 .u64 ((n:Nat):Int) 1000000 (h:=fun w=>remU _ n 1000000 (n%1000000) (by decide) rfl w),oM,oJ .u64 .u64 (((n%1000000):Nat):Int) ((i:Nat):Int) (h:=fun w=>add64 _ (n%1000000) i (by omega) w),
    oH (v:=FV (ofn ((n%1000000)+i))) (vs:=#[.int .u64 ((n%1000000+i:Nat):Int)]) (fun w _ _=>refOfN R ((n%1000000)+i) w (by omega)),oZ rF,
    oT rF,
    trivial⟩ (fun L3 w4 hp4=>?_)
   refine sdr [.det (FV (ofn ((n%1000000)+i))),.det (FV (ofn ((n%1000000)+i))),.det (FV ((ofn ((n%1000000)+i))*(ofn ((n%1000000)+i)))),.det (FV (ofn ((n%1000000)+i))),.det (FV (((ofn ((n%1000000)+i))*(ofn ((n%1000000)+i)))*(ofn ((n%1000000)+i)))),.det (FV 4),.det (FV ((((ofn ((n%1000000)+i))*(ofn ((n%1000000)+i)))*(ofn ((n%1000000)+i)))+4)),.det (.tuple #[FV (root (ocube ((n%1000000)+i))),.bool false]),.det (.tuple #[FV (root (ocube ((n%1000000)+i))),.bool false]),.det (FV (root (ocube ((n%1000000)+i)))),.det (.bool false),.alloc (FC 0),.store (.new 11) 0 (FC (root (ocube ((n%1000000)+i)))) (FC (root (ocube ((n%1000000)+i)))),.det (.bool false)] (nn 14) [0,0,3,0,15,31,63,127,255,511,511,0,3071,8191] (fun L=>[.int .u64 ((n:Nat):Int),u1,L0.p 0,.bool false,.int .u64 ((i:Nat):Int),L3.p 5,L.p 11,.bool false,.int .u64 ((i:Nat):Int),.bool true,u10,u11,.int .u64 ((n:Nat):Int),.int .u64 (((n%1000000):Nat):Int),.int .u64 ((i:Nat):Int),.int .u64 ((n%1000000+i:Nat):Int),FV (ofn ((n%1000000)+i)),.tuple #[FV (root (ocube ((n%1000000)+i))),.bool false],FV (ofn ((n%1000000)+i)),FV (ofn ((n%1000000)+i)),FV ((ofn ((n%1000000)+i))*(ofn ((n%1000000)+i))),FV (ofn ((n%1000000)+i)),FV (((ofn ((n%1000000)+i))*(ofn ((n%1000000)+i)))*(ofn ((n%1000000)+i))),FV 4,FV ((((ofn ((n%1000000)+i))*(ofn ((n%1000000)+i)))*(ofn ((n%1000000)+i)))+4),.tuple #[FV (root (ocube ((n%1000000)+i))),.bool false],FV (root (ocube ((n%1000000)+i))),.bool false,u28,u29,u30,u31,u32]) (fun L=>[(L0.b 0,GC ⟨0,0,false⟩),(L3.b 5,FC (ofn ((n%1000000)+i))),(L.b 11,FC (root (ocube ((n%1000000)+i))))]) hp4 ⟨
    oL 1 0 rF,oL 1 0 rF,oR (fun w=>R.mul (ofn ((n%1000000)+i)) (ofn ((n%1000000)+i)) w trivial),oL 1 0 rF,oR (fun w=>R.mul ((ofn ((n%1000000)+i))*(ofn ((n%1000000)+i))) (ofn ((n%1000000)+i)) w trivial),
    oR R.of4,oR (fun w=>R.add (((ofn ((n%1000000)+i))*(ofn ((n%1000000)+i)))*(ofn ((n%1000000)+i))) 4 w trivial),oH (v:=.tuple #[FV (root (ocube ((n%1000000)+i))),.bool false]) (vs:=#[FV ((((ofn ((n%1000000)+i))*(ofn ((n%1000000)+i)))*(ofn ((n%1000000)+i)))+4)]) (fun w _ _=>by have h:=R.sqrt (ocube ((n%1000000)+i)) w trivial;rw [hq] at h;exact h),
    oM,oX,oX,oZ rF,oT rF,oA,
    trivial⟩ (fun L4 w5 hp5=>?_)
   refine sgs [.det (.bool false)] [0] [0] (fun L=>[.int .u64 ((n:Nat):Int),u1,L0.p 0,.bool false,.int .u64 ((i:Nat):Int),L3.p 5,L4.p 11,.bool false,.int .u64 ((i:Nat):Int),.bool true,u10,u11,.int .u64 ((n:Nat):Int),.int .u64 (((n%1000000):Nat):Int),.int .u64 ((i:Nat):Int),.int .u64 ((n%1000000+i:Nat):Int),FV (ofn ((n%1000000)+i)),.tuple #[FV (root (ocube ((n%1000000)+i))),.bool false],FV (ofn ((n%1000000)+i)),FV (ofn ((n%1000000)+i)),FV ((ofn ((n%1000000)+i))*(ofn ((n%1000000)+i))),FV (ofn ((n%1000000)+i)),FV (((ofn ((n%1000000)+i))*(ofn ((n%1000000)+i)))*(ofn ((n%1000000)+i))),FV 4,FV ((((ofn ((n%1000000)+i))*(ofn ((n%1000000)+i)))*(ofn ((n%1000000)+i)))+4),.tuple #[FV (root (ocube ((n%1000000)+i))),.bool false],FV (root (ocube ((n%1000000)+i))),.bool false,.bool false,u29,u30,u31,u32]) (fun L=>[(L0.b 0,GC ⟨0,0,false⟩),(L3.b 5,FC (ofn ((n%1000000)+i))),(L4.b 11,FC (root (ocube ((n%1000000)+i))))]) hp5 ⟨
    oM,
    trivial⟩ (fun L5 w6 hp6=>?_)
   refine cF ?_
   refine skips ?_
   refine k8 _ _ _ ?_
   refine block_normal ?_
   refine k7 _ _ ?_
   refine gs [.det (.int .u64 ((i:Nat):Int)),.det (.int .u64 ((i+1:Nat):Int)),.det (.int .u64 ((i+1:Nat):Int))] [0,1,2] [0,1,3] (fun L=>[.int .u64 ((n:Nat):Int),u1,L0.p 0,.bool false,.int .u64 ((i+1:Nat):Int),L3.p 5,L4.p 11,.bool false,.int .u64 ((i:Nat):Int),.bool true,.int .u64 ((i:Nat):Int),.int .u64 ((i+1:Nat):Int),.int .u64 ((n:Nat):Int),.int .u64 (((n%1000000):Nat):Int),.int .u64 ((i:Nat):Int),.int .u64 ((n%1000000+i:Nat):Int),FV (ofn ((n%1000000)+i)),.tuple #[FV (root (ocube ((n%1000000)+i))),.bool false],FV (ofn ((n%1000000)+i)),FV (ofn ((n%1000000)+i)),FV ((ofn ((n%1000000)+i))*(ofn ((n%1000000)+i))),FV (ofn ((n%1000000)+i)),FV (((ofn ((n%1000000)+i))*(ofn ((n%1000000)+i)))*(ofn ((n%1000000)+i))),FV 4,FV ((((ofn ((n%1000000)+i))*(ofn ((n%1000000)+i)))*(ofn ((n%1000000)+i)))+4),.tuple #[FV (root (ocube ((n%1000000)+i))),.bool false],FV (root (ocube ((n%1000000)+i))),.bool false,.bool false,u29,u30,u31,u32]) (fun L=>[(L0.b 0,GC ⟨0,0,false⟩),(L3.b 5,FC (ofn ((n%1000000)+i))),(L4.b 11,FC (root (ocube ((n%1000000)+i))))]) hp6 ⟨
    oM,oJ .u64 .u64 ((i:Nat):Int) 1 (h:=fun w=>add64 _ i 1 (by omega) w),oA,
    trivial⟩ (fun L6 w7 hp7=>?_)
   exact ⟨m,Nat.lt_succ_self _,i+1,u1,L3.p 5,L4.p 11,.bool false,.int .u64 ((i:Nat):Int),.bool true,.int .u64 ((i:Nat):Int),.int .u64 ((i+1:Nat):Int),.int .u64 ((n:Nat):Int),.int .u64 (((n%1000000):Nat):Int),.int .u64 ((i:Nat):Int),.int .u64 ((n%1000000+i:Nat):Int),FV (ofn ((n%1000000)+i)),.tuple #[FV (root (ocube ((n%1000000)+i))),.bool false],FV (ofn ((n%1000000)+i)),FV (ofn ((n%1000000)+i)),FV ((ofn ((n%1000000)+i))*(ofn ((n%1000000)+i))),FV (ofn ((n%1000000)+i)),FV (((ofn ((n%1000000)+i))*(ofn ((n%1000000)+i)))*(ofn ((n%1000000)+i))),FV 4,FV ((((ofn ((n%1000000)+i))*(ofn ((n%1000000)+i)))*(ofn ((n%1000000)+i)))+4),.tuple #[FV (root (ocube ((n%1000000)+i))),.bool false],FV (root (ocube ((n%1000000)+i))),.bool false,.bool false,u29,u30,u31,u32,rfl,by omega,by rw [← hy,out_no hq],Heap.sub hp7 (List.sublist_append_left [_] [_,_])⟩
  ·skip
   refine wp_seq_k (fun K12 k12=>?_)
   refine sgs [.det (.int .u64 ((i:Nat):Int)),.det (.bool true)] [0,1] [0,1] (fun L=>[.int .u64 ((n:Nat):Int),u1,L0.p 0,.bool false,.int .u64 ((i:Nat):Int),u5,u6,u7,.int .u64 ((i:Nat):Int),.bool true,u10,u11,u12,u13,u14,u15,u16,u17,u18,u19,u20,u21,u22,u23,u24,u25,u26,u27,u28,u29,u30,u31,u32]) (fun L=>[(L0.b 0,GC ⟨0,0,false⟩)]) hJ ⟨
    oM,oJ .u64 .u64 ((i:Nat):Int) 20 (h:=fun w=>(lssU _ _ _ w).trans (by rw [decide_eq_true (by omega)])),
    trivial⟩ (fun L7 w8 hp8=>?_)
   refine cT ?_
   refine skips ?_
   refine k12 _ _ ?_
   refine wp_seq_k (fun K14 k14=>?_)
   refine wp_block_k (fun K15 k15=>?_)
   refine sgs [.det (.int .u64 ((n:Nat):Int)),.det (.int .u64 (((n%1000000):Nat):Int)),.det (.int .u64 ((i:Nat):Int)),.det (.int .u64 ((n%1000000+i:Nat):Int)),.det (FV (ofn ((n%1000000)+i))),.alloc (FC 0),.store (.new 5) 0 (FC (ofn ((n%1000000)+i))) (FC (ofn ((n%1000000)+i)))] (nn 7) [0,1,0,7,15,0,63] (fun L=>[.int .u64 ((n:Nat):Int),u1,L0.p 0,.bool false,.int .u64 ((i:Nat):Int),L.p 5,u6,u7,.int .u64 ((i:Nat):Int),.bool true,u10,u11,.int .u64 ((n:Nat):Int),.int .u64 (((n%1000000):Nat):Int),.int .u64 ((i:Nat):Int),.int .u64 ((n%1000000+i:Nat):Int),FV (ofn ((n%1000000)+i)),u17,u18,u19,u20,u21,u22,u23,u24,u25,u26,u27,u28,u29,u30,u31,u32]) (fun L=>[(L0.b 0,GC ⟨0,0,false⟩),(L.b 5,FC (ofn ((n%1000000)+i)))]) hp8 ⟨
    oM,oJ .u64 .u64 ((n:Nat):Int) 1000000 (h:=fun w=>remU _ n 1000000 (n%1000000) (by decide) rfl w),oM,oJ .u64 .u64 (((n%1000000):Nat):Int) ((i:Nat):Int) (h:=fun w=>add64 _ (n%1000000) i (by omega) w),
    oH (v:=FV (ofn ((n%1000000)+i))) (vs:=#[.int .u64 ((n%1000000+i:Nat):Int)]) (fun w _ _=>refOfN R ((n%1000000)+i) w (by omega)),oZ rF,
    oT rF,
    trivial⟩ (fun L8 w9 hp9=>?_)
   refine sdr [.det (FV (ofn ((n%1000000)+i))),.det (FV (ofn ((n%1000000)+i))),.det (FV ((ofn ((n%1000000)+i))*(ofn ((n%1000000)+i)))),.det (FV (ofn ((n%1000000)+i))),.det (FV (((ofn ((n%1000000)+i))*(ofn ((n%1000000)+i)))*(ofn ((n%1000000)+i)))),.det (FV 4),.det (FV ((((ofn ((n%1000000)+i))*(ofn ((n%1000000)+i)))*(ofn ((n%1000000)+i)))+4)),.det (.tuple #[FV (root (ocube ((n%1000000)+i))),.bool true]),.det (.tuple #[FV (root (ocube ((n%1000000)+i))),.bool true]),.det (FV (root (ocube ((n%1000000)+i)))),.det (.bool true),.alloc (FC 0),.store (.new 11) 0 (FC (root (ocube ((n%1000000)+i)))) (FC (root (ocube ((n%1000000)+i)))),.det (.bool true)] (nn 14) [0,0,3,0,15,31,63,127,255,511,511,0,3071,8191] (fun L=>[.int .u64 ((n:Nat):Int),u1,L0.p 0,.bool false,.int .u64 ((i:Nat):Int),L8.p 5,L.p 11,.bool true,.int .u64 ((i:Nat):Int),.bool true,u10,u11,.int .u64 ((n:Nat):Int),.int .u64 (((n%1000000):Nat):Int),.int .u64 ((i:Nat):Int),.int .u64 ((n%1000000+i:Nat):Int),FV (ofn ((n%1000000)+i)),.tuple #[FV (root (ocube ((n%1000000)+i))),.bool true],FV (ofn ((n%1000000)+i)),FV (ofn ((n%1000000)+i)),FV ((ofn ((n%1000000)+i))*(ofn ((n%1000000)+i))),FV (ofn ((n%1000000)+i)),FV (((ofn ((n%1000000)+i))*(ofn ((n%1000000)+i)))*(ofn ((n%1000000)+i))),FV 4,FV ((((ofn ((n%1000000)+i))*(ofn ((n%1000000)+i)))*(ofn ((n%1000000)+i)))+4),.tuple #[FV (root (ocube ((n%1000000)+i))),.bool true],FV (root (ocube ((n%1000000)+i))),.bool true,u28,u29,u30,u31,u32]) (fun L=>[(L0.b 0,GC ⟨0,0,false⟩),(L8.b 5,FC (ofn ((n%1000000)+i))),(L.b 11,FC (root (ocube ((n%1000000)+i))))]) hp9 ⟨
    oL 1 0 rF,oL 1 0 rF,oR (fun w=>R.mul (ofn ((n%1000000)+i)) (ofn ((n%1000000)+i)) w trivial),oL 1 0 rF,oR (fun w=>R.mul ((ofn ((n%1000000)+i))*(ofn ((n%1000000)+i))) (ofn ((n%1000000)+i)) w trivial),
    oR R.of4,oR (fun w=>R.add (((ofn ((n%1000000)+i))*(ofn ((n%1000000)+i)))*(ofn ((n%1000000)+i))) 4 w trivial),oH (v:=.tuple #[FV (root (ocube ((n%1000000)+i))),.bool true]) (vs:=#[FV ((((ofn ((n%1000000)+i))*(ofn ((n%1000000)+i)))*(ofn ((n%1000000)+i)))+4)]) (fun w _ _=>by have h:=R.sqrt (ocube ((n%1000000)+i)) w trivial;rw [hq] at h;exact h),
    oM,oX,oX,oZ rF,oT rF,oA,
    trivial⟩ (fun L9 w10 hp10=>?_)
   refine sgs [.det (.bool true)] [0] [0] (fun L=>[.int .u64 ((n:Nat):Int),u1,L0.p 0,.bool false,.int .u64 ((i:Nat):Int),L8.p 5,L9.p 11,.bool true,.int .u64 ((i:Nat):Int),.bool true,u10,u11,.int .u64 ((n:Nat):Int),.int .u64 (((n%1000000):Nat):Int),.int .u64 ((i:Nat):Int),.int .u64 ((n%1000000+i:Nat):Int),FV (ofn ((n%1000000)+i)),.tuple #[FV (root (ocube ((n%1000000)+i))),.bool true],FV (ofn ((n%1000000)+i)),FV (ofn ((n%1000000)+i)),FV ((ofn ((n%1000000)+i))*(ofn ((n%1000000)+i))),FV (ofn ((n%1000000)+i)),FV (((ofn ((n%1000000)+i))*(ofn ((n%1000000)+i)))*(ofn ((n%1000000)+i))),FV 4,FV ((((ofn ((n%1000000)+i))*(ofn ((n%1000000)+i)))*(ofn ((n%1000000)+i)))+4),.tuple #[FV (root (ocube ((n%1000000)+i))),.bool true],FV (root (ocube ((n%1000000)+i))),.bool true,.bool true,u29,u30,u31,u32]) (fun L=>[(L0.b 0,GC ⟨0,0,false⟩),(L8.b 5,FC (ofn ((n%1000000)+i))),(L9.b 11,FC (root (ocube ((n%1000000)+i))))]) hp10 ⟨
    oM,
    trivial⟩ (fun L10 w11 hp11=>?_)
   refine cT ?_
   refine sgs [.det (FV (ofn ((n%1000000)+i))),.det (FV (root (ocube ((n%1000000)+i)))),.det (GV ⟨(ofn ((n%1000000)+i)),(root (ocube ((n%1000000)+i))),false⟩),.store (.base 0) 0 (GC ⟨(ofn ((n%1000000)+i)),(root (ocube ((n%1000000)+i))),false⟩) (GC ⟨(ofn ((n%1000000)+i)),(root (ocube ((n%1000000)+i))),false⟩),.det (.bool true)] (nn 5) [0,0,3,7,15] (fun L=>[.int .u64 ((n:Nat):Int),u1,L0.p 0,.bool true,.int .u64 ((i:Nat):Int),L8.p 5,L9.p 11,.bool true,.int .u64 ((i:Nat):Int),.bool true,u10,u11,.int .u64 ((n:Nat):Int),.int .u64 (((n%1000000):Nat):Int),.int .u64 ((i:Nat):Int),.int .u64 ((n%1000000+i:Nat):Int),FV (ofn ((n%1000000)+i)),.tuple #[FV (root (ocube ((n%1000000)+i))),.bool true],FV (ofn ((n%1000000)+i)),FV (ofn ((n%1000000)+i)),FV ((ofn ((n%1000000)+i))*(ofn ((n%1000000)+i))),FV (ofn ((n%1000000)+i)),FV (((ofn ((n%1000000)+i))*(ofn ((n%1000000)+i)))*(ofn ((n%1000000)+i))),FV 4,FV ((((ofn ((n%1000000)+i))*(ofn ((n%1000000)+i)))*(ofn ((n%1000000)+i)))+4),.tuple #[FV (root (ocube ((n%1000000)+i))),.bool true],FV (root (ocube ((n%1000000)+i))),.bool true,.bool true,FV (ofn ((n%1000000)+i)),FV (root (ocube ((n%1000000)+i))),GV ⟨(ofn ((n%1000000)+i)),(root (ocube ((n%1000000)+i))),false⟩,u32]) (fun L=>[(L0.b 0,GC ⟨(ofn ((n%1000000)+i)),(root (ocube ((n%1000000)+i))),false⟩),(L8.b 5,FC (ofn ((n%1000000)+i))),(L9.b 11,FC (root (ocube ((n%1000000)+i))))]) hp11 ⟨
    oL 1 0 rF,oL 2 0 rF,oD (buildG01 (ofn ((n%1000000)+i)) (root (ocube ((n%1000000)+i)))),oT rG,oA,
    trivial⟩ (fun L11 w12 hp12=>?_)
   refine wp_ret ?_
   refine k15 _ _ _ ?_
   refine k4 _ _ _ ?_
   refine bodyPost_ret (v:=.tuple #[GV ⟨(ofn ((n%1000000)+i)),(root (ocube ((n%1000000)+i))),false⟩,.bool true]) ?_ rfl ?_
   ·exact rct rG rfl (by kernel_rfl) (by kernel_rfl) (hp12.bound 0 rfl).2
   ·exact ⟨by rw [← hy,out_yes hq],hp12.bel⟩
 subst hL0
 obtain rfl:i=20:=by omega
 refine wp_seq_k (fun K20 k20=>?_)
 refine sgs [.det (.int .u64 ((20:Nat):Int)),.det (.bool false)] [0,1] [0,1] (fun L=>[.int .u64 ((n:Nat):Int),u1,L0.p 0,.bool false,.int .u64 ((20:Nat):Int),u5,u6,u7,.int .u64 ((20:Nat):Int),.bool false,u10,u11,u12,u13,u14,u15,u16,u17,u18,u19,u20,u21,u22,u23,u24,u25,u26,u27,u28,u29,u30,u31,u32]) (fun L=>[(L0.b 0,GC ⟨0,0,false⟩)]) hJ ⟨
  oM,oJ .u64 .u64 ((20:Nat):Int) 20 (h:=fun w=>(lssU _ _ _ w).trans (by rw [decide_eq_false (by omega)])),
  trivial⟩ (fun L12 w13 hp13=>?_)
 refine cF ?_
 refine wp_exit ?_
 refine then_exit ?_
 refine then_exit ?_
 refine k4 _ _ _ ?_
 refine exit_in ?_
 refine k2 _ _ ?_
 refine sgs [.det (GV ⟨0,0,false⟩),.store (.base 0) 0 (GC ⟨0,0,false⟩) (GC ⟨0,0,false⟩),.det (.bool false)] [0,1,2] [0,1,3] (fun L=>[.int .u64 ((n:Nat):Int),u1,L0.p 0,.bool false,.int .u64 ((20:Nat):Int),u5,u6,u7,.int .u64 ((20:Nat):Int),.bool false,u10,u11,u12,u13,u14,u15,u16,u17,u18,u19,u20,u21,u22,u23,u24,u25,u26,u27,u28,u29,u30,u31,GV ⟨0,0,false⟩]) (fun L=>[(L0.b 0,GC ⟨0,0,false⟩)]) hp13 ⟨
  oD buildGn,oT rG,oA,
  trivial⟩ (fun L13 w14 hp14=>?_)
 refine wp_ret ?_
 refine bodyPost_ret (v:=.tuple #[GV ⟨0,0,false⟩,.bool false]) ?_ rfl ?_
 ·exact rct rG rfl (by kernel_rfl) (by kernel_rfl) (hp14.bound 0 rfl).2
 ·exact ⟨by rw [← hy];rfl,hp14.bel⟩
theorem refOut_or (R:RefK) (n:Nat) (hn:n<18446744073709551616):(∃ P:Pt F,On (4:F) P∧∀ w,Calls Tryz.prog 22 #[.int .u64 ((n:Nat):Int)] w (Ret (.tuple #[GV (gp P),.bool true]) w)) ∨
  (∀ w,Calls Tryz.prog 22 #[.int .u64 ((n:Nat):Int)] w (Ret (.tuple #[GV ⟨0,0,false⟩,.bool false]) w)):=by
 have h:=fun w=>refOut R n w hn
 rcases out_or (n%1000000) 20 0 with ⟨P,hP,e⟩ | e
 ·exact .inl ⟨P,hP,fun w=>by have:=h w;rw [e] at this;exact this⟩
 ·exact .inr fun w=>by have:=h w;rw [e] at this;exact this
end Go.Proofs.YthnfgmhehfombaaGreatDoor.fpn
