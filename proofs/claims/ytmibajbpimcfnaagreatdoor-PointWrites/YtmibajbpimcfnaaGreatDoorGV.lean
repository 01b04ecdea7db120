/- Texts laid together. -/
import Derived.Test.YtmibajbpimcfnaaGreatDoorGS
import Derived.Test.YtmibajbpimcfnaaGreatDoorGC
import Derived.Test.YtmibajbpimcfnaaGreatDoorGT
set_option linter.unusedVariables false
set_option linter.unusedSimpArgs false
set_option maxRecDepth 4000
set_option maxHeartbeats 4000000
/- Points out of numbers. -/
namespace Go.Proofs.YtmibajbpimcfnaaGreatDoor.fpn.T2
open Go.RowKit Pl EC
def ofn (k:Nat):F:=Fin.ofNat RN k
def ox (m j i:Nat):F2:=⟨ofn (m+i),ofn j⟩
def ocube (x:F2):F2:=x*x*x+b2
theorem sq2_sq {a:F2} (h:F2.is2 a=true):F2.sq2 a*F2.sq2 a=a:=by
 unfold F2.is2 at h
 obtain ⟨r,hr⟩:=@of_decide_eq_true _ (Classical.propDecidable _) h
 cases hg:r.great with
 | false=>rw [F2.sq2_of hr hg,hr]
 | true =>
  have h0:r≠0:=fun e=>by rw [e,F2.great_zero'] at hg;cases hg
  have e:-r*-r=a:=by rw [F2.neg_mul_neg',hr]
  rw [F2.sq2_of e (by rw [F2.great_neg' h0,hg];rfl),e]
theorem refOfN (R:RefK) (k:Nat) (w:World) (hk:k<2000000):Calls Tryz.prog 37 #[.int .u64 ((k:Nat):Int)] w (Ret (FV (ofn k)) w) :=
 Calls.mono (refOf_any (k:Int) w) fun e w' ⟨h1,h2⟩=>⟨by
  rw [h1]
  have hv:(ofn k).val=k:=Nat.mod_eq_of_lt (Nat.lt_trans hk (by decide +kernel))
  have h0:lb k 0=(k:Int):=by unfold lb;simp [Nat.mod_eq_of_lt (show k<18446744073709551616 by omega)]
  have hj:∀ j,0<j→lb k j=0:=fun j hj=>by
   unfold lb
   have:k / 2^(64*j)=0:=Nat.div_eq_of_lt (Nat.lt_of_lt_of_le (show k<2^64 by omega) (Nat.pow_le_pow_right (by decide) (by omega)))
   rw [this];rfl
  rw [FV_agg,hv,h0,hj 1 (by decide),hj 2 (by decide),hj 3 (by decide),hj 4 (by decide),hj 5 (by decide)],h2⟩
noncomputable def outAt (m j:Nat):Nat→Nat→G2p × Bool
 | 0,_=>(⟨0,0,false⟩,false)
 | L+1,i=>if F2.is2 (ocube (ox m j i))=true then (⟨ox m j i,F2.sq2 (ocube (ox m j i)),false⟩,true) else outAt m j L (i+1)
theorem out_yes {m j L i:Nat} (h:F2.is2 (ocube (ox m j i))=true):outAt m j (L+1) i=(⟨ox m j i,F2.sq2 (ocube (ox m j i)),false⟩,true):=if_pos h
theorem out_no {m j L i:Nat} (h:F2.is2 (ocube (ox m j i))=false):outAt m j (L+1) i=outAt m j L (i+1):=if_neg (by rw [h];decide)
theorem out_or (m j:Nat):∀ (L i:Nat),(∃ P:Pt F2,On b2 P∧outAt m j L i=(gp P,true))∨outAt m j L i=(⟨0,0,false⟩,false)
 | 0,i=>.inr rfl
 | L+1,i=>by
  cases h:F2.is2 (ocube (ox m j i)) with
  | false=>rw [out_no h];exact out_or m j L (i+1)
  | true =>
   refine .inl ⟨.aff (ox m j i) (F2.sq2 (ocube (ox m j i))),?_,out_yes h⟩
   exact sq2_sq h
def outI (n:Nat) (w:World) (b2:Nat):Nat→Act→World→Prop:=fun L a' w'=>∃ (i:Nat) (u1 u5 u6 u7 u8 u9 u10 u11 u12 u13 u14 u15 u16 u17 u18 u19 u20 u21 u22 u23 u24 u25 u26 u27 u28 u29 u30 u31 u32 u33 u34 u35 u36 u37 u38 u39:Value),
 a'={ tmps:=#[.int .u64 ((n:Nat):Int),u1,.pointer (some ⟨b2,0,none⟩),.bool false,.int .u64 ((i:Nat):Int),u5,u6,u7,u8,u9,u10,u11,u12,u13,u14,u15,u16,u17,u18,u19,u20,u21,u22,u23,u24,u25,u26,u27,u28,u29,u30,u31,u32,u33,u34,u35,u36,u37,u38,u39],defers:=[] }∧i+L=20∧outAt (n%1000) (n / 1000%1000) L i=outAt (n%1000) (n / 1000%1000) 20 0∧Heap w.heap.size w w' [(b2,GC ⟨0,0,false⟩)]
theorem refOut (R:RefK) (n:Nat) (w:World) (hn:n<18446744073709551616):Calls Tryz.prog 16 #[.int .u64 ((n:Nat):Int)] w (Ret (.tuple #[GV (outAt (n%1000) (n / 1000%1000) 20 0).1,.bool (outAt (n%1000) (n / 1000%1000) 20 0).2]) w):=by
 have hp0:=Heap.start w
 go_enter Tryz.func16,Tryz.ntmps16
 refine sgs [.alloc (GC ⟨0,0,false⟩),.det (.bool false)] [0,1] [0,0] (fun L=>[.int .u64 ((n:Nat):Int),undef,L.p 0,.bool false]++U 36) (fun L=>[(L.b 0,GC ⟨0,0,false⟩)]) hp0 ⟨
  oZ rG,oA,
  trivial⟩ (fun L0 w1 hp1=>?_)
 refine wp_seq_k (fun K2 k2=>?_)
 refine sgs [.det (.int .u64 0)] [0] [0] (fun L=>[.int .u64 ((n:Nat):Int),undef,L0.p 0,.bool false,.int .u64 0]++U 35) (fun L=>[(L0.b 0,GC ⟨0,0,false⟩)]) hp1 ⟨
  oA,
  trivial⟩ (fun L1 w2 hp2=>?_)
 refine wp_block_k (fun K4 k4=>?_)
 refine wp_loop_ghost (outI n w (L0.b 0)) 20 ⟨0,undef,undef,undef,undef,undef,undef,undef,undef,undef,undef,undef,undef,undef,undef,undef,undef,undef,undef,undef,undef,undef,undef,undef,undef,undef,undef,undef,undef,undef,undef,undef,undef,undef,undef,undef,undef,rfl,rfl,rfl,hp2⟩ ?_
 rintro L a' W ⟨i,u1,u5,u6,u7,u8,u9,u10,u11,u12,u13,u14,u15,u16,u17,u18,u19,u20,u21,u22,u23,u24,u25,u26,u27,u28,u29,u30,u31,u32,u33,u34,u35,u36,u37,u38,u39,rfl,hL,hy,hJ⟩
 by_cases hL0:L=0
 rotate_left
 ·skip
  obtain ⟨m,rfl⟩:∃ m,L=m+1:=⟨L-1,by omega⟩
  cases hq:F2.is2 (ocube (ox (n%1000) (n / 1000%1000) i))
  ·skip
   refine wp_seq_k (fun K5 k5=>?_)
   refine sgs [.det (.int .u64 ((i:Nat):Int)),.det (.bool true)] [0,1] [0,1] (fun L=>[.int .u64 ((n:Nat):Int),u1,L0.p 0,.bool false,.int .u64 ((i:Nat):Int),u5,u6,u7,.int .u64 ((i:Nat):Int),.bool true,u10,u11,u12,u13,u14,u15,u16,u17,u18,u19,u20,u21,u22,u23,u24,u25,u26,u27,u28,u29,u30,u31,u32,u33,u34,u35,u36,u37,u38,u39]) (fun L=>[(L0.b 0,GC ⟨0,0,false⟩)]) hJ ⟨
    oM,oJ .u64 .u64 ((i:Nat):Int) 20 (h:=fun w=>(lssU _ _ _ w).trans (by rw [decide_eq_true (by omega)])),
    trivial⟩ (fun L2 w3 hp3=>?_)
   refine cT ?_
   refine skips ?_
   refine k5 _ _ ?_
   refine wp_seq_k (fun K7 k7=>?_)
   refine wp_block_k (fun K8 k8=>?_)
   refine sgs [.det (.int .u64 ((n:Nat):Int)),.det (.int .u64 (((n%1000):Nat):Int)),.det (.int .u64 ((i:Nat):Int)),.det (.int .u64 ((n%1000+i:Nat):Int)),.det (FV (ofn ((n%1000)+i))),.det (.int .u64 ((n:Nat):Int)),.det (.int .u64 (((n / 1000):Nat):Int)),.det (.int .u64 (((n / 1000%1000):Nat):Int)),.det (FV (ofn (n / 1000%1000))),.det (PV ⟨(ofn ((n%1000)+i)),(ofn (n / 1000%1000))⟩),.alloc (PC 0),.store (.new 10) 0 (PC ⟨(ofn ((n%1000)+i)),(ofn (n / 1000%1000))⟩) (PC ⟨(ofn ((n%1000)+i)),(ofn (n / 1000%1000))⟩)] (Pl.nn 12) [0,1,0,7,15,0,32,96,255,511,0,2047] (fun L=>[.int .u64 ((n:Nat):Int),u1,L0.p 0,.bool false,.int .u64 ((i:Nat):Int),L.p 10,u6,u7,.int .u64 ((i:Nat):Int),.bool true,u10,u11,.int .u64 ((n:Nat):Int),.int .u64 (((n%1000):Nat):Int),.int .u64 ((i:Nat):Int),.int .u64 ((n%1000+i:Nat):Int),FV (ofn ((n%1000)+i)),.int .u64 ((n:Nat):Int),.int .u64 (((n / 1000):Nat):Int),.int .u64 (((n / 1000%1000):Nat):Int),FV (ofn (n / 1000%1000)),PV ⟨(ofn ((n%1000)+i)),(ofn (n / 1000%1000))⟩,u22,u23,u24,u25,u26,u27,u28,u29,u30,u31,u32,u33,u34,u35,u36,u37,u38,u39]) (fun L=>[(L0.b 0,GC ⟨0,0,false⟩),(L.b 10,PC ⟨(ofn ((n%1000)+i)),(ofn (n / 1000%1000))⟩)]) hp3 ⟨
    oM,oJ .u64 .u64 ((n:Nat):Int) 1000 (h:=fun w=>remU _ n 1000 (n%1000) (by decide) rfl w),oM,oJ .u64 .u64 (((n%1000):Nat):Int) ((i:Nat):Int) (h:=fun w=>add64 _ (n%1000) i (by omega) w),
    oH (v:=FV (ofn ((n%1000)+i))) (vs:=#[.int .u64 ((n%1000+i:Nat):Int)]) (fun w _ _=>refOfN R ((n%1000)+i) w (by omega)),oM,oJ .u64 .u64 ((n:Nat):Int) 1000 (h:=fun w=>quoU _ n 1000 (n / 1000) (by decide) hn rfl w),
    oJ .u64 .u64 (((n / 1000):Nat):Int) 1000 (h:=fun w=>remU _ (n / 1000) 1000 (n / 1000%1000) (by decide) rfl w),oH (v:=FV (ofn (n / 1000%1000))) (vs:=#[.int .u64 (((n / 1000%1000):Nat):Int)]) (fun w _ _=>refOfN R (n / 1000%1000) w (by omega)),
    oD (buildP (ofn ((n%1000)+i)) (ofn (n / 1000%1000))),oZ rP,oT rP,
    trivial⟩ (fun L3 w4 hp4=>?_)
   refine sdr [.det (PV ⟨(ofn ((n%1000)+i)),(ofn (n / 1000%1000))⟩),.det (PV ⟨(ofn ((n%1000)+i)),(ofn (n / 1000%1000))⟩),.det (PV ((ox (n%1000) (n / 1000%1000) i)*(ox (n%1000) (n / 1000%1000) i))),.det (PV ⟨(ofn ((n%1000)+i)),(ofn (n / 1000%1000))⟩),.det (PV ((ox (n%1000) (n / 1000%1000) i)*(ox (n%1000) (n / 1000%1000) i)*(ox (n%1000) (n / 1000%1000) i))),.det (FV 4),.det (FV 4),.det (PV ⟨4,4⟩),.det (PV (ocube (ox (n%1000) (n / 1000%1000) i))),.det (.tuple #[PV (F2.sq2 (ocube (ox (n%1000) (n / 1000%1000) i))),.bool false]),.det (.tuple #[PV (F2.sq2 (ocube (ox (n%1000) (n / 1000%1000) i))),.bool false]),.det (PV (F2.sq2 (ocube (ox (n%1000) (n / 1000%1000) i)))),.det (.bool false),.alloc (PC 0),.store (.new 13) 0 (PC (F2.sq2 (ocube (ox (n%1000) (n / 1000%1000) i)))) (PC (F2.sq2 (ocube (ox (n%1000) (n / 1000%1000) i)))),.det (.bool false)] (Pl.nn 16) [0,0,3,0,15,0,0,96,255,511,1023,2047,2047,0,12287,32767] (fun L=>[.int .u64 ((n:Nat):Int),u1,L0.p 0,.bool false,.int .u64 ((i:Nat):Int),L3.p 10,L.p 13,.bool false,.int .u64 ((i:Nat):Int),.bool true,u10,u11,.int .u64 ((n:Nat):Int),.int .u64 (((n%1000):Nat):Int),.int .u64 ((i:Nat):Int),.int .u64 ((n%1000+i:Nat):Int),FV (ofn ((n%1000)+i)),.int .u64 ((n:Nat):Int),.int .u64 (((n / 1000):Nat):Int),.int .u64 (((n / 1000%1000):Nat):Int),FV (ofn (n / 1000%1000)),PV ⟨(ofn ((n%1000)+i)),(ofn (n / 1000%1000))⟩,.tuple #[PV (F2.sq2 (ocube (ox (n%1000) (n / 1000%1000) i))),.bool false],PV ⟨(ofn ((n%1000)+i)),(ofn (n / 1000%1000))⟩,PV ⟨(ofn ((n%1000)+i)),(ofn (n / 1000%1000))⟩,PV ((ox (n%1000) (n / 1000%1000) i)*(ox (n%1000) (n / 1000%1000) i)),PV ⟨(ofn ((n%1000)+i)),(ofn (n / 1000%1000))⟩,PV ((ox (n%1000) (n / 1000%1000) i)*(ox (n%1000) (n / 1000%1000) i)*(ox (n%1000) (n / 1000%1000) i)),FV 4,FV 4,PV ⟨4,4⟩,PV (ocube (ox (n%1000) (n / 1000%1000) i)),.tuple #[PV (F2.sq2 (ocube (ox (n%1000) (n / 1000%1000) i))),.bool false],PV (F2.sq2 (ocube (ox (n%1000) (n / 1000%1000) i))),.bool false,u35,u36,u37,u38,u39]) (fun L=>[(L0.b 0,GC ⟨0,0,false⟩),(L3.b 10,PC ⟨(ofn ((n%1000)+i)),(ofn (n / 1000%1000))⟩),(L.b 13,PC (F2.sq2 (ocube (ox (n%1000) (n / 1000%1000) i))))]) hp4 ⟨
    oL 1 0 rP,oL 1 0 rP,oR (ref5Mul2 R (ox (n%1000) (n / 1000%1000) i) (ox (n%1000) (n / 1000%1000) i)),oL 1 0 rP,oR (ref5Mul2 R ((ox (n%1000) (n / 1000%1000) i)*(ox (n%1000) (n / 1000%1000) i)) (ox (n%1000) (n / 1000%1000) i)),
    oD buildF4,oD buildF4,oD (buildP 4 4),oR (ref5Add2 R ((ox (n%1000) (n / 1000%1000) i)*(ox (n%1000) (n / 1000%1000) i)*(ox (n%1000) (n / 1000%1000) i)) ⟨4,4⟩),
    oH (v:=.tuple #[PV (F2.sq2 (ocube (ox (n%1000) (n / 1000%1000) i))),.bool false]) (vs:=#[PV (ocube (ox (n%1000) (n / 1000%1000) i))]) (fun w _ _=>by have h:=ref5Sqrt2 R (ocube (ox (n%1000) (n / 1000%1000) i)) w;rw [hq] at h;exact h),
    oM,oX,oX,oZ rP,oT rP,oA,
    trivial⟩ (fun L4 w5 hp5=>?_)
   refine sgs [.det (.bool false)] [0] [0] (fun L=>[.int .u64 ((n:Nat):Int),u1,L0.p 0,.bool false,.int .u64 ((i:Nat):Int),L3.p 10,L4.p 13,.bool false,.int .u64 ((i:Nat):Int),.bool true,u10,u11,.int .u64 ((n:Nat):Int),.int .u64 (((n%1000):Nat):Int),.int .u64 ((i:Nat):Int),.int .u64 ((n%1000+i:Nat):Int),FV (ofn ((n%1000)+i)),.int .u64 ((n:Nat):Int),.int .u64 (((n / 1000):Nat):Int),.int .u64 (((n / 1000%1000):Nat):Int),FV (ofn (n / 1000%1000)),PV ⟨(ofn ((n%1000)+i)),(ofn (n / 1000%1000))⟩,.tuple #[PV (F2.sq2 (ocube (ox (n%1000) (n / 1000%1000) i))),.bool false],PV ⟨(ofn ((n%1000)+i)),(ofn (n / 1000%1000))⟩,PV ⟨(ofn ((n%1000)+i)),(ofn (n / 1000%1000))⟩,PV ((ox (n%1000) (n / 1000%1000) i)*(ox (n%1000) (n / 1000%1000) i)),PV ⟨(ofn ((n%1000)+i)),(ofn (n / 1000%1000))⟩,PV ((ox (n%1000) (n / 1000%1000) i)*(ox (n%1000) (n / 1000%1000) i)*(ox (n%1000) (n / 1000%1000) i)),FV 4,FV 4,PV ⟨4,4⟩,PV (ocube (ox (n%1000) (n / 1000%1000) i)),.tuple #[PV (F2.sq2 (ocube (ox (n%1000) (n / 1000%1000) i))),.bool false],PV (F2.sq2 (ocube (ox (n%1000) (n / 1000%1000) i))),.bool false,.bool false,u36,u37,u38,u39]) (fun L=>[(L0.b 0,GC ⟨0,0,false⟩),(L3.b 10,PC ⟨(ofn ((n%1000)+i)),(ofn (n / 1000%1000))⟩),(L4.b 13,PC (F2.sq2 (ocube (ox (n%1000) (n / 1000%1000) i))))]) hp5 ⟨
    oM,
    trivial⟩ (fun L5 w6 hp6=>?_)
   refine cF ?_
   refine skips ?_
   refine k8 _ _ _ ?_
   refine block_normal ?_
   refine k7 _ _ ?_
   refine gs [.det (.int .u64 ((i:Nat):Int)),.det (.int .u64 ((i+1:Nat):Int)),.det (.int .u64 ((i+1:Nat):Int))] [0,1,2] [0,1,3] (fun L=>[.int .u64 ((n:Nat):Int),u1,L0.p 0,.bool false,.int .u64 ((i+1:Nat):Int),L3.p 10,L4.p 13,.bool false,.int .u64 ((i:Nat):Int),.bool true,.int .u64 ((i:Nat):Int),.int .u64 ((i+1:Nat):Int),.int .u64 ((n:Nat):Int),.int .u64 (((n%1000):Nat):Int),.int .u64 ((i:Nat):Int),.int .u64 ((n%1000+i:Nat):Int),FV (ofn ((n%1000)+i)),.int .u64 ((n:Nat):Int),.int .u64 (((n / 1000):Nat):Int),.int .u64 (((n / 1000%1000):Nat):Int),FV (ofn (n / 1000%1000)),PV ⟨(ofn ((n%1000)+i)),(ofn (n / 1000%1000))⟩,.tuple #[PV (F2.sq2 (ocube (ox (n%1000) (n / 1000%1000) i))),.bool false],PV ⟨(ofn ((n%1000)+i)),(ofn (n / 1000%1000))⟩,PV ⟨(ofn ((n%1000)+i)),(ofn (n / 1000%1000))⟩,PV ((ox (n%1000) (n / 1000%1000) i)*(ox (n%1000) (n / 1000%1000) i)),PV ⟨(ofn ((n%1000)+i)),(ofn (n / 1000%1000))⟩,PV ((ox (n%1000) (n / 1000%1000) i)*(ox (n%1000) (n / 1000%1000) i)*(ox (n%1000) (n / 1000%1000) i)),FV 4,FV 4,PV ⟨4,4⟩,PV (ocube (ox (n%1000) (n / 1000%1000) i)),.tuple #[PV (F2.sq2 (ocube (ox (n%1000) (n / 1000%1000) i))),.bool false],PV (F2.sq2 (ocube (ox (n%1000) (n / 1000%1000) i))),.bool false,.bool false,u36,u37,u38,u39]) (fun L=>[(L0.b 0,GC ⟨0,0,false⟩),(L3.b 10,PC ⟨(ofn ((n%1000)+i)),(ofn (n / 1000%1000))⟩),(L4.b 13,PC (F2.sq2 (ocube (ox (n%1000) (n / 1000%1000) i))))]) hp6 ⟨
    oM,oJ .u64 .u64 ((i:Nat):Int) 1 (h:=fun w=>add64 _ i 1 (by omega) w),oA,
    trivial⟩ (fun L6 w7 hp7=>?_)
   exact ⟨m,Nat.lt_succ_self _,i+1,u1,L3.p 10,L4.p 13,.bool false,.int .u64 ((i:Nat):Int),.bool true,.int .u64 ((i:Nat):Int),.int .u64 ((i+1:Nat):Int),.int .u64 ((n:Nat):Int),.int .u64 (((n%1000):Nat):Int),.int .u64 ((i:Nat):Int),.int .u64 ((n%1000+i:Nat):Int),FV (ofn ((n%1000)+i)),.int .u64 ((n:Nat):Int),.int .u64 (((n / 1000):Nat):Int),.int .u64 (((n / 1000%1000):Nat):Int),FV (ofn (n / 1000%1000)),PV ⟨(ofn ((n%1000)+i)),(ofn (n / 1000%1000))⟩,.tuple #[PV (F2.sq2 (ocube (ox (n%1000) (n / 1000%1000) i))),.bool false],PV ⟨(ofn ((n%1000)+i)),(ofn (n / 1000%1000))⟩,PV ⟨(ofn ((n%1000)+i)),(ofn (n / 1000%1000))⟩,PV ((ox (n%1000) (n / 1000%1000) i)*(ox (n%1000) (n / 1000%1000) i)),PV ⟨(ofn ((n%1000)+i)),(ofn (n / 1000%1000))⟩,PV ((ox (n%1000) (n / 1000%1000) i)*(ox (n%1000) (n / 1000%1000) i)*(ox (n%1000) (n / 1000%1000) i)),FV 4,FV 4,PV ⟨4,4⟩,PV (ocube (ox (n%1000) (n / 1000%1000) i)),.tuple #[PV (F2.sq2 (ocube (ox (n%1000) (n / 1000%1000) i))),.bool false],PV (F2.sq2 (ocube (ox (n%1000) (n / 1000%1000) i))),.bool false,.bool false,u36,u37,u38,u39,rfl,by omega,by rw [← hy,out_no hq],Heap.sub hp7 (List.sublist_append_left [_] [_,_])⟩
  ·skip
   refine wp_seq_k (fun K12 k12=>?_)
   refine sgs [.det (.int .u64 ((i:Nat):Int)),.det (.bool true)] [0,1] [0,1] (fun L=>[.int .u64 ((n:Nat):Int),u1,L0.p 0,.bool false,.int .u64 ((i:Nat):Int),u5,u6,u7,.int .u64 ((i:Nat):Int),.bool true,u10,u11,u12,u13,u14,u15,u16,u17,u18,u19,u20,u21,u22,u23,u24,u25,u26,u27,u28,u29,u30,u31,u32,u33,u34,u35,u36,u37,u38,u39]) (fun L=>[(L0.b 0,GC ⟨0,0,false⟩)]) hJ ⟨
    oM,oJ .u64 .u64 ((i:Nat):Int) 20 (h:=fun w=>(lssU _ _ _ w).trans (by rw [decide_eq_true (by omega)])),
    trivial⟩ (fun L7 w8 hp8=>?_)
   refine cT ?_
   refine skips ?_
   refine k12 _ _ ?_
   refine wp_seq_k (fun K14 k14=>?_)
   refine wp_block_k (fun K15 k15=>?_)
   refine sgs [.det (.int .u64 ((n:Nat):Int)),.det (.int .u64 (((n%1000):Nat):Int)),.det (.int .u64 ((i:Nat):Int)),.det (.int .u64 ((n%1000+i:Nat):Int)),.det (FV (ofn ((n%1000)+i))),.det (.int .u64 ((n:Nat):Int)),.det (.int .u64 (((n / 1000):Nat):Int)),.det (.int .u64 (((n / 1000%1000):Nat):Int)),.det (FV (ofn (n / 1000%1000))),.det (PV ⟨(ofn ((n%1000)+i)),(ofn (n / 1000%1000))⟩),.alloc (PC 0),.store (.new 10) 0 (PC ⟨(ofn ((n%1000)+i)),(ofn (n / 1000%1000))⟩) (PC ⟨(ofn ((n%1000)+i)),(ofn (n / 1000%1000))⟩)] (Pl.nn 12) [0,1,0,7,15,0,32,96,255,511,0,2047] (fun L=>[.int .u64 ((n:Nat):Int),u1,L0.p 0,.bool false,.int .u64 ((i:Nat):Int),L.p 10,u6,u7,.int .u64 ((i:Nat):Int),.bool true,u10,u11,.int .u64 ((n:Nat):Int),.int .u64 (((n%1000):Nat):Int),.int .u64 ((i:Nat):Int),.int .u64 ((n%1000+i:Nat):Int),FV (ofn ((n%1000)+i)),.int .u64 ((n:Nat):Int),.int .u64 (((n / 1000):Nat):Int),.int .u64 (((n / 1000%1000):Nat):Int),FV (ofn (n / 1000%1000)),PV ⟨(ofn ((n%1000)+i)),(ofn (n / 1000%1000))⟩,u22,u23,u24,u25,u26,u27,u28,u29,u30,u31,u32,u33,u34,u35,u36,u37,u38,u39]) (fun L=>[(L0.b 0,GC ⟨0,0,false⟩),(L.b 10,PC ⟨(ofn ((n%1000)+i)),(ofn (n / 1000%1000))⟩)]) hp8 ⟨
    oM,oJ .u64 .u64 ((n:Nat):Int) 1000 (h:=fun w=>remU _ n 1000 (n%1000) (by decide) rfl w),oM,oJ .u64 .u64 (((n%1000):Nat):Int) ((i:Nat):Int) (h:=fun w=>add64 _ (n%1000) i (by omega) w),
    oH (v:=FV (ofn ((n%1000)+i))) (vs:=#[.int .u64 ((n%1000+i:Nat):Int)]) (fun w _ _=>refOfN R ((n%1000)+i) w (by omega)),oM,oJ .u64 .u64 ((n:Nat):Int) 1000 (h:=fun w=>quoU _ n 1000 (n / 1000) (by decide) hn rfl w),
    oJ .u64 .u64 (((n / 1000):Nat):Int) 1000 (h:=fun w=>remU _ (n / 1000) 1000 (n / 1000%1000) (by decide) rfl w),oH (v:=FV (ofn (n / 1000%1000))) (vs:=#[.int .u64 (((n / 1000%1000):Nat):Int)]) (fun w _ _=>refOfN R (n / 1000%1000) w (by omega)),
    oD (buildP (ofn ((n%1000)+i)) (ofn (n / 1000%1000))),oZ rP,oT rP,
    trivial⟩ (fun L8 w9 hp9=>?_)
   refine sdr [.det (PV ⟨(ofn ((n%1000)+i)),(ofn (n / 1000%1000))⟩),.det (PV ⟨(ofn ((n%1000)+i)),(ofn (n / 1000%1000))⟩),.det (PV ((ox (n%1000) (n / 1000%1000) i)*(ox (n%1000) (n / 1000%1000) i))),.det (PV ⟨(ofn ((n%1000)+i)),(ofn (n / 1000%1000))⟩),.det (PV ((ox (n%1000) (n / 1000%1000) i)*(ox (n%1000) (n / 1000%1000) i)*(ox (n%1000) (n / 1000%1000) i))),.det (FV 4),.det (FV 4),.det (PV ⟨4,4⟩),.det (PV (ocube (ox (n%1000) (n / 1000%1000) i))),.det (.tuple #[PV (F2.sq2 (ocube (ox (n%1000) (n / 1000%1000) i))),.bool true]),.det (.tuple #[PV (F2.sq2 (ocube (ox (n%1000) (n / 1000%1000) i))),.bool true]),.det (PV (F2.sq2 (ocube (ox (n%1000) (n / 1000%1000) i)))),.det (.bool true),.alloc (PC 0),.store (.new 13) 0 (PC (F2.sq2 (ocube (ox (n%1000) (n / 1000%1000) i)))) (PC (F2.sq2 (ocube (ox (n%1000) (n / 1000%1000) i)))),.det (.bool true)] (Pl.nn 16) [0,0,3,0,15,0,0,96,255,511,1023,2047,2047,0,12287,32767] (fun L=>[.int .u64 ((n:Nat):Int),u1,L0.p 0,.bool false,.int .u64 ((i:Nat):Int),L8.p 10,L.p 13,.bool true,.int .u64 ((i:Nat):Int),.bool true,u10,u11,.int .u64 ((n:Nat):Int),.int .u64 (((n%1000):Nat):Int),.int .u64 ((i:Nat):Int),.int .u64 ((n%1000+i:Nat):Int),FV (ofn ((n%1000)+i)),.int .u64 ((n:Nat):Int),.int .u64 (((n / 1000):Nat):Int),.int .u64 (((n / 1000%1000):Nat):Int),FV (ofn (n / 1000%1000)),PV ⟨(ofn ((n%1000)+i)),(ofn (n / 1000%1000))⟩,.tuple #[PV (F2.sq2 (ocube (ox (n%1000) (n / 1000%1000) i))),.bool true],PV ⟨(ofn ((n%1000)+i)),(ofn (n / 1000%1000))⟩,PV ⟨(ofn ((n%1000)+i)),(ofn (n / 1000%1000))⟩,PV ((ox (n%1000) (n / 1000%1000) i)*(ox (n%1000) (n / 1000%1000) i)),PV ⟨(ofn ((n%1000)+i)),(ofn (n / 1000%1000))⟩,PV ((ox (n%1000) (n / 1000%1000) i)*(ox (n%1000) (n / 1000%1000) i)*(ox (n%1000) (n / 1000%1000) i)),FV 4,FV 4,PV ⟨4,4⟩,PV (ocube (ox (n%1000) (n / 1000%1000) i)),.tuple #[PV (F2.sq2 (ocube (ox (n%1000) (n / 1000%1000) i))),.bool true],PV (F2.sq2 (ocube (ox (n%1000) (n / 1000%1000) i))),.bool true,u35,u36,u37,u38,u39]) (fun L=>[(L0.b 0,GC ⟨0,0,false⟩),(L8.b 10,PC ⟨(ofn ((n%1000)+i)),(ofn (n / 1000%1000))⟩),(L.b 13,PC (F2.sq2 (ocube (ox (n%1000) (n / 1000%1000) i))))]) hp9 ⟨
    oL 1 0 rP,oL 1 0 rP,oR (ref5Mul2 R (ox (n%1000) (n / 1000%1000) i) (ox (n%1000) (n / 1000%1000) i)),oL 1 0 rP,oR (ref5Mul2 R ((ox (n%1000) (n / 1000%1000) i)*(ox (n%1000) (n / 1000%1000) i)) (ox (n%1000) (n / 1000%1000) i)),
    oD buildF4,oD buildF4,oD (buildP 4 4),oR (ref5Add2 R ((ox (n%1000) (n / 1000%1000) i)*(ox (n%1000) (n / 1000%1000) i)*(ox (n%1000) (n / 1000%1000) i)) ⟨4,4⟩),
    oH (v:=.tuple #[PV (F2.sq2 (ocube (ox (n%1000) (n / 1000%1000) i))),.bool true]) (vs:=#[PV (ocube (ox (n%1000) (n / 1000%1000) i))]) (fun w _ _=>by have h:=ref5Sqrt2 R (ocube (ox (n%1000) (n / 1000%1000) i)) w;rw [hq] at h;exact h),
    oM,oX,oX,oZ rP,oT rP,oA,
    trivial⟩ (fun L9 w10 hp10=>?_)
   refine sgs [.det (.bool true)] [0] [0] (fun L=>[.int .u64 ((n:Nat):Int),u1,L0.p 0,.bool false,.int .u64 ((i:Nat):Int),L8.p 10,L9.p 13,.bool true,.int .u64 ((i:Nat):Int),.bool true,u10,u11,.int .u64 ((n:Nat):Int),.int .u64 (((n%1000):Nat):Int),.int .u64 ((i:Nat):Int),.int .u64 ((n%1000+i:Nat):Int),FV (ofn ((n%1000)+i)),.int .u64 ((n:Nat):Int),.int .u64 (((n / 1000):Nat):Int),.int .u64 (((n / 1000%1000):Nat):Int),FV (ofn (n / 1000%1000)),PV ⟨(ofn ((n%1000)+i)),(ofn (n / 1000%1000))⟩,.tuple #[PV (F2.sq2 (ocube (ox (n%1000) (n / 1000%1000) i))),.bool true],PV ⟨(ofn ((n%1000)+i)),(ofn (n / 1000%1000))⟩,PV ⟨(ofn ((n%1000)+i)),(ofn (n / 1000%1000))⟩,PV ((ox (n%1000) (n / 1000%1000) i)*(ox (n%1000) (n / 1000%1000) i)),PV ⟨(ofn ((n%1000)+i)),(ofn (n / 1000%1000))⟩,PV ((ox (n%1000) (n / 1000%1000) i)*(ox (n%1000) (n / 1000%1000) i)*(ox (n%1000) (n / 1000%1000) i)),FV 4,FV 4,PV ⟨4,4⟩,PV (ocube (ox (n%1000) (n / 1000%1000) i)),.tuple #[PV (F2.sq2 (ocube (ox (n%1000) (n / 1000%1000) i))),.bool true],PV (F2.sq2 (ocube (ox (n%1000) (n / 1000%1000) i))),.bool true,.bool true,u36,u37,u38,u39]) (fun L=>[(L0.b 0,GC ⟨0,0,false⟩),(L8.b 10,PC ⟨(ofn ((n%1000)+i)),(ofn (n / 1000%1000))⟩),(L9.b 13,PC (F2.sq2 (ocube (ox (n%1000) (n / 1000%1000) i))))]) hp10 ⟨
    oM,
    trivial⟩ (fun L10 w11 hp11=>?_)
   refine cT ?_
   refine sgs [.det (PV ⟨(ofn ((n%1000)+i)),(ofn (n / 1000%1000))⟩),.det (PV (F2.sq2 (ocube (ox (n%1000) (n / 1000%1000) i)))),.det (GV ⟨⟨(ofn ((n%1000)+i)),(ofn (n / 1000%1000))⟩,(F2.sq2 (ocube (ox (n%1000) (n / 1000%1000) i))),false⟩),.store (.base 0) 0 (GC ⟨⟨(ofn ((n%1000)+i)),(ofn (n / 1000%1000))⟩,(F2.sq2 (ocube (ox (n%1000) (n / 1000%1000) i))),false⟩) (GC ⟨⟨(ofn ((n%1000)+i)),(ofn (n / 1000%1000))⟩,(F2.sq2 (ocube (ox (n%1000) (n / 1000%1000) i))),false⟩),.det (.bool true)] (Pl.nn 5) [0,0,3,7,15] (fun L=>[.int .u64 ((n:Nat):Int),u1,L0.p 0,.bool true,.int .u64 ((i:Nat):Int),L8.p 10,L9.p 13,.bool true,.int .u64 ((i:Nat):Int),.bool true,u10,u11,.int .u64 ((n:Nat):Int),.int .u64 (((n%1000):Nat):Int),.int .u64 ((i:Nat):Int),.int .u64 ((n%1000+i:Nat):Int),FV (ofn ((n%1000)+i)),.int .u64 ((n:Nat):Int),.int .u64 (((n / 1000):Nat):Int),.int .u64 (((n / 1000%1000):Nat):Int),FV (ofn (n / 1000%1000)),PV ⟨(ofn ((n%1000)+i)),(ofn (n / 1000%1000))⟩,.tuple #[PV (F2.sq2 (ocube (ox (n%1000) (n / 1000%1000) i))),.bool true],PV ⟨(ofn ((n%1000)+i)),(ofn (n / 1000%1000))⟩,PV ⟨(ofn ((n%1000)+i)),(ofn (n / 1000%1000))⟩,PV ((ox (n%1000) (n / 1000%1000) i)*(ox (n%1000) (n / 1000%1000) i)),PV ⟨(ofn ((n%1000)+i)),(ofn (n / 1000%1000))⟩,PV ((ox (n%1000) (n / 1000%1000) i)*(ox (n%1000) (n / 1000%1000) i)*(ox (n%1000) (n / 1000%1000) i)),FV 4,FV 4,PV ⟨4,4⟩,PV (ocube (ox (n%1000) (n / 1000%1000) i)),.tuple #[PV (F2.sq2 (ocube (ox (n%1000) (n / 1000%1000) i))),.bool true],PV (F2.sq2 (ocube (ox (n%1000) (n / 1000%1000) i))),.bool true,.bool true,PV ⟨(ofn ((n%1000)+i)),(ofn (n / 1000%1000))⟩,PV (F2.sq2 (ocube (ox (n%1000) (n / 1000%1000) i))),GV ⟨⟨(ofn ((n%1000)+i)),(ofn (n / 1000%1000))⟩,(F2.sq2 (ocube (ox (n%1000) (n / 1000%1000) i))),false⟩,u39]) (fun L=>[(L0.b 0,GC ⟨⟨(ofn ((n%1000)+i)),(ofn (n / 1000%1000))⟩,(F2.sq2 (ocube (ox (n%1000) (n / 1000%1000) i))),false⟩),(L8.b 10,PC ⟨(ofn ((n%1000)+i)),(ofn (n / 1000%1000))⟩),(L9.b 13,PC (F2.sq2 (ocube (ox (n%1000) (n / 1000%1000) i))))]) hp11 ⟨
    oL 1 0 rP,oL 2 0 rP,oD (buildG01 ⟨(ofn ((n%1000)+i)),(ofn (n / 1000%1000))⟩ (F2.sq2 (ocube (ox (n%1000) (n / 1000%1000) i)))),oT rG,oA,
    trivial⟩ (fun L11 w12 hp12=>?_)
   refine wp_ret ?_
   refine k15 _ _ _ ?_
   refine k4 _ _ _ ?_
   refine bodyPost_ret (v:=.tuple #[GV ⟨⟨(ofn ((n%1000)+i)),(ofn (n / 1000%1000))⟩,(F2.sq2 (ocube (ox (n%1000) (n / 1000%1000) i))),false⟩,.bool true]) ?_ rfl ?_
   ·exact rct rG rfl (by kernel_rfl) (by kernel_rfl) (hp12.bound 0 rfl).2
   ·exact ⟨by rw [← hy,out_yes hq];rfl,hp12.bel⟩
 subst hL0
 obtain rfl:i=20:=by omega
 refine wp_seq_k (fun K20 k20=>?_)
 refine sgs [.det (.int .u64 ((20:Nat):Int)),.det (.bool false)] [0,1] [0,1] (fun L=>[.int .u64 ((n:Nat):Int),u1,L0.p 0,.bool false,.int .u64 ((20:Nat):Int),u5,u6,u7,.int .u64 ((20:Nat):Int),.bool false,u10,u11,u12,u13,u14,u15,u16,u17,u18,u19,u20,u21,u22,u23,u24,u25,u26,u27,u28,u29,u30,u31,u32,u33,u34,u35,u36,u37,u38,u39]) (fun L=>[(L0.b 0,GC ⟨0,0,false⟩)]) hJ ⟨
  oM,oJ .u64 .u64 ((20:Nat):Int) 20 (h:=fun w=>(lssU _ _ _ w).trans (by rw [decide_eq_false (by omega)])),
  trivial⟩ (fun L12 w13 hp13=>?_)
 refine cF ?_
 refine wp_exit ?_
 refine then_exit ?_
 refine then_exit ?_
 refine k4 _ _ _ ?_
 refine exit_in ?_
 refine k2 _ _ ?_
 refine sgs [.det (GV ⟨0,0,false⟩),.store (.base 0) 0 (GC ⟨0,0,false⟩) (GC ⟨0,0,false⟩),.det (.bool false)] [0,1,2] [0,1,3] (fun L=>[.int .u64 ((n:Nat):Int),u1,L0.p 0,.bool false,.int .u64 ((20:Nat):Int),u5,u6,u7,.int .u64 ((20:Nat):Int),.bool false,u10,u11,u12,u13,u14,u15,u16,u17,u18,u19,u20,u21,u22,u23,u24,u25,u26,u27,u28,u29,u30,u31,u32,u33,u34,u35,u36,u37,u38,GV ⟨0,0,false⟩]) (fun L=>[(L0.b 0,GC ⟨0,0,false⟩)]) hp13 ⟨
  oD buildGn,oT rG,oA,
  trivial⟩ (fun L13 w14 hp14=>?_)
 refine wp_ret ?_
 refine bodyPost_ret (v:=.tuple #[GV ⟨0,0,false⟩,.bool false]) ?_ rfl ?_
 ·exact rct rG rfl (by kernel_rfl) (by kernel_rfl) (hp14.bound 0 rfl).2
 ·exact ⟨by rw [← hy];rfl,hp14.bel⟩
theorem refOut_or (R:RefK) (n:Nat) (hn:n<18446744073709551616):(∃ P:Pt F2,On b2 P∧∀ w,Calls Tryz.prog 16 #[.int .u64 ((n:Nat):Int)] w (Ret (.tuple #[GV (gp P),.bool true]) w)) ∨
  (∀ w,Calls Tryz.prog 16 #[.int .u64 ((n:Nat):Int)] w (Ret (.tuple #[GV ⟨0,0,false⟩,.bool false]) w)):=by
 have h:=fun w=>refOut R n w hn
 rcases out_or (n%1000) (n / 1000%1000) 20 0 with ⟨P,hP,e⟩ | e
 ·exact .inl ⟨P,hP,fun w=>by have:=h w;rw [e] at this;exact this⟩
 ·exact .inr fun w=>by have:=h w;rw [e] at this;exact this
end Go.Proofs.YtmibajbpimcfnaaGreatDoor.fpn.T2
