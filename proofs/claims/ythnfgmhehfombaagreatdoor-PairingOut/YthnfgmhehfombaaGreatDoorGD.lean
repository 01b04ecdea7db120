/- Texts laid together. -/
import Derived.Test.YthnfgmhehfombaaGreatDoorGB
import Derived.Deep.RegionWith
import Derived.Deep.RegionHeld3
import Derived.ScopeJumps
set_option linter.unusedVariables false
set_option maxRecDepth 4000
set_option maxHeartbeats 4000000
/- Add, bring, Of, P. -/
namespace Go.Proofs.YthnfgmhehfombaaGreatDoor.fpn
open Go.RowKit
attribute [local go_sem ↓] Go.wp_at_zero Go.wp_at_succ
theorem bring_any (f:Nat→Int) (w:World) (rf:Rg f 6) (h2:val f 6<2*RI) :
  Calls Tryz.prog 137 #[.agg #[.int .u64 (f 0),.int .u64 (f 1),.int .u64 (f 2),.int .u64 (f 3),.int .u64 (f 4),.int .u64 (f 5)]] w fun e w'=>∃ h:Nat→Int,e=.returned (.agg #[.int .u64 (h 0),.int .u64 (h 1),.int .u64 (h 2),.int .u64 (h 3),.int .u64 (h 4),.int .u64 (h 5)])∧Rg h 6∧val h 6=val f 6%RI∧Below w.heap.size w w':=by
 have v1:=lessR_val rf
 have d1:=val_bd (df_rg f rL 6)
 have d0:=val_bd rf
 have hb:=bw_bd f rL 6
 have hp:=RI_pos
 have K:=fun k hc=>bring_at f (df f rL) k (bw f rL 6) w (fun w=>less_any f rL w rf rL_rg) hc
 rcases (show bw f rL 6=0∨bw f rL 6=1 by omega) with e | e
 ·rw [e] at v1
  refine Calls.mono (K (df f rL) (Or.inl ⟨e,rfl⟩)) ?_
  rintro e' w' ⟨rfl,b⟩
  refine ⟨_,rfl,df_rg f rL 6,?_,b⟩
  rw [show val f 6=val (df f rL) 6+RI by omega,Int.add_emod_right]
  exact (Int.emod_eq_of_lt d1.1 (by omega)).symm
 ·rw [e] at v1
  refine Calls.mono (K f (Or.inr ⟨e,rfl⟩)) ?_
  rintro e' w' ⟨rfl,b⟩
  exact ⟨_,rfl,rf,(Int.emod_eq_of_lt d0.1 (by omega)).symm,b⟩
theorem frAdd_any (f g : Nat → Int) (w : World) (rf : Rg f 6) (rg : Rg g 6) (lf : val f 6 < RI) (lg : val g 6 < RI) :
    Calls Tryz.prog 118 #[.agg #[.int .u64 (f 0), .int .u64 (f 1), .int .u64 (f 2), .int .u64 (f 3), .int .u64 (f 4), .int .u64 (f 5)], .agg #[.int .u64 (g 0), .int .u64 (g 1), .int .u64 (g 2), .int .u64 (g 3), .int .u64 (g 4), .int .u64 (g 5)]] w fun e w' => ∃ h : Nat → Int, e = .returned (.agg #[.int .u64 (h 0), .int .u64 (h 1), .int .u64 (h 2), .int .u64 (h 3), .int .u64 (h 4), .int .u64 (h 5)]) ∧ Rg h 6 ∧ val h 6 = (val f 6 + val g 6) % RI ∧ Below w.heap.size w w' := by
  have V : val (sm f g 0) 6 = val f 6 + val g 6 := by
    rw [val_sm_lt rf rg ⟨by decide, by decide⟩ (by have : 2 * RI < pw 6 := by decide +kernel
                                                   omega)]
    omega
  have K : Hid _ := fun w => bring_any (sm f g 0) w (sm_rg f g 0 6) (by omega)
  rw [V] at K
  have KP : Hid _ := fun w => plus_any f g w rf rg
  obtain ⟨B1, z1, hF, hG, hR⟩ := three_all w f g 30
  unfold three at B1 z1 hF hG hR
  generalize sm f g 0 = s at *
  clear V rf rg lf lg
  go_enter Tryz.func118, Tryz.ntmps118
  go_wp2_with fail
  generalize ((w.alloc (.cells #[.int .u64 (f 0), .int .u64 (f 1), .int .u64 (f 2), .int .u64 (f 3), .int .u64 (f 4), .int .u64 (f 5)] 30)).alloc (.cells #[.int .u64 (g 0), .int .u64 (g 1), .int .u64 (g 2), .int .u64 (g 3), .int .u64 (g 4), .int .u64 (g 5)] 30)).alloc (.cells #[.int .u64 0, .int .u64 0, .int .u64 0, .int .u64 0, .int .u64 0, .int .u64 0] 30) = W at *
  refine Calls.mono (KP.out _) ?_
  rintro e w1 ⟨rfl, b1⟩
  have hR1 := MutK.below hR b1 (by rw [z1]; omega)
  have B2 := Below.up B1 (Nat.le_refl _) b1
  clear hF hG hR b1
  go_wp2_with fail
  refine Calls.mono (K.out _) ?_
  rintro e w2 ⟨h, rfl, r2, v2, b2⟩
  have hR2 := MutK.below hR1 b2 (cell_lt (MutK.cells6 hR1).1)
  obtain ⟨y0, y1, y2, y3, y4, y5⟩ := MutK.cells6 hR2
  obtain ⟨q0, q1, q2, q3, q4, q5⟩ := MutK.free6 hR2
  have HB : Hid _ := Below.up B2 (Nat.le_refl _) b2
  have R2 : Hid _ := r2
  have V2 : Hid _ := v2
  clear b2 B1 B2 hR1 hR2 r2 v2 z1
  go_wp2
  refine bodyPost_ret (v := .agg #[.int .u64 (h 0), .int .u64 (h 1), .int .u64 (h 2), .int .u64 (h 3), .int .u64 (h 4), .int .u64 (h 5)]) (by simp [results, Tryz.results118, go_sem, y0, y1, y2, y3, y4, y5]) rfl ⟨h, rfl, R2.out, V2.out, ?_⟩
  exact below_set6 HB.out (by omega) _ _ _ _ _ _
theorem frOf_any (x:Int) (w:World) (hx:0≤x∧x<B64):Calls Tryz.prog 120 #[.int .u64 x] w fun e w'=>∃ h:Nat→Int,e=.returned (.agg #[.int .u64 (h 0),.int .u64 (h 1),.int .u64 (h 2),.int .u64 (h 3),.int .u64 (h 4),.int .u64 (h 5)])∧Rg h 6∧val h 6=x∧Below w.heap.size w w':=by
 have R1:=one_rg hx 6
 have V1:=val_one4 x
 clear hx
 go_enter Tryz.func120,Tryz.ntmps120
 go_wp2
 refine bodyPost_ret (v:=.agg #[.int .u64 x,.int .u64 0,.int .u64 0,.int .u64 0,.int .u64 0,.int .u64 0]) (by simp [results,Tryz.results120,go_sem]) rfl ⟨one x,rfl,R1,V1,below_one _ _⟩
end Go.Proofs.YthnfgmhehfombaaGreatDoor.fpn
/- What fr.times answers: Montgomery's product. -/
namespace Go.Proofs.YthnfgmhehfombaaGreatDoor.fpn
open Go.RowKit
attribute [local go_sem ↓] Go.wp_at_zero Go.wp_at_succ
theorem idx6 (a b c d p q:Int):(∀ w:World,(Instr.index 30 (.agg #[.int .u64 a,.int .u64 b,.int .u64 c,.int .u64 d,.int .u64 p,.int .u64 q]) (.int .i64 0)).run Tryz.prog w=.ok (.int .u64 a) w)∧(∀ w:World,(Instr.index 30 (.agg #[.int .u64 a,.int .u64 b,.int .u64 c,.int .u64 d,.int .u64 p,.int .u64 q]) (.int .i64 1)).run Tryz.prog w=.ok (.int .u64 b) w)∧(∀ w:World,(Instr.index 30 (.agg #[.int .u64 a,.int .u64 b,.int .u64 c,.int .u64 d,.int .u64 p,.int .u64 q]) (.int .i64 2)).run Tryz.prog w=.ok (.int .u64 c) w)∧(∀ w:World,(Instr.index 30 (.agg #[.int .u64 a,.int .u64 b,.int .u64 c,.int .u64 d,.int .u64 p,.int .u64 q]) (.int .i64 3)).run Tryz.prog w=.ok (.int .u64 d) w)∧(∀ w:World,(Instr.index 30 (.agg #[.int .u64 a,.int .u64 b,.int .u64 c,.int .u64 d,.int .u64 p,.int .u64 q]) (.int .i64 4)).run Tryz.prog w=.ok (.int .u64 p) w)∧(∀ w:World,(Instr.index 30 (.agg #[.int .u64 a,.int .u64 b,.int .u64 c,.int .u64 d,.int .u64 p,.int .u64 q]) (.int .i64 5)).run Tryz.prog w=.ok (.int .u64 q) w):=by
 have u:=Tryz.underlying30
 have a3:=Tryz.isAgg25
 have z3:=Tryz.sizeOf25
 refine ⟨fun w=>?_,fun w=>?_,fun w=>?_,fun w=>?_,fun w=>?_,fun w=>?_⟩<;>simp [Instr.index,run_underlying u,asIntOf,go_sem]
def fm (s:Nat→Int):Int:=s 0*9940570264628428797%B64
theorem fm_bd (s:Nat→Int):0≤fm s∧fm s<B64:=⟨Int.emod_nonneg _ (by rw [B64_eq];decide),Int.emod_lt_of_pos _ B64_pos⟩
theorem fm_zero (s:Nat→Int):tm s rL (fm s) 0=0:=by
 unfold tm fm
 rw [show rL 0=13402431016077863595 from rfl,show ct s rL (s 0*9940570264628428797%B64) 0=0 from rfl,Int.add_zero,Int.add_emod,mul_mod_r,← Int.add_emod]
 rw [show (13402431016077863595:Int)*(s 0*9940570264628428797)+s 0=B64*(s 0*7222293901829252101) by rw [B64_eq];omega]
 exact Int.mul_emod_right _ _
def nt (t g:Nat→Int) (k:Int):Nat→Int
 | 0=>tm (tm t g k) rL (fm (tm t g k)) 1
 | 1=>tm (tm t g k) rL (fm (tm t g k)) 2
 | 2=>tm (tm t g k) rL (fm (tm t g k)) 3
 | 3=>tm (tm t g k) rL (fm (tm t g k)) 4
 | 4=>tm (tm t g k) rL (fm (tm t g k)) 5
 | _=>ct t g k 6+ct (tm t g k) rL (fm (tm t g k)) 6
theorem nt_val (t g:Nat→Int) (k:Int):val (nt t g k) 6*B64=val t 6+val g 6*k+RI*fm (tm t g k):=by
 have e1:=val_tm t g k 6
 have e2:=val_tm (tm t g k) rL (fm (tm t g k)) 6
 have z:=fm_zero (tm t g k)
 rw [rL_val] at e2
 simp only [val,pw,nt,z] at e1 e2 ⊢
 generalize fm (tm t g k)=m at *
 generalize tm (tm t g k) rL m 1=a1 at *
 generalize tm (tm t g k) rL m 2=a2 at *
 generalize tm (tm t g k) rL m 3=a3 at *
 generalize tm (tm t g k) rL m 4=a4 at *
 generalize tm (tm t g k) rL m 5=a5 at *
 generalize ct (tm t g k) rL m 6=c2 at *
 generalize ct t g k 6=c1 at *
 generalize tm t g k 0=s0 at *
 generalize tm t g k 1=s1 at *
 generalize tm t g k 2=s2 at *
 generalize tm t g k 3=s3 at *
 generalize tm t g k 4=s4 at *
 generalize tm t g k 5=s5 at *
 grind
theorem mulAdd_ct (t g:Nat→Int) (k:Int) (i:Nat) (w:World) (hk:0≤k∧k<B64) (rt:Rg t (i+1)) (rg:Rg g (i+1)) :
  Calls Tryz.prog 151 #[.int .u64 k,.int .u64 (g i),.int .u64 (t i),.int .u64 (ct t g k i)] w fun e w'=>e=.returned (.tuple #[.int .u64 (ct t g k (i+1)),.int .u64 (tm t g k i)])∧w'=w:=by
 have:=mulAdd_any k (g i) (t i) (ct t g k i) w hk (rg i (by omega)) (rt i (by omega)) (ct_bd (rt.mono (by omega)) (rg.mono (by omega)) hk)
 rw [Int.mul_comm k] at this
 exact this
def TJ (f g t:Nat→Int) (j:Nat):Prop:=Rg t 6∧∃ Q:Int,val t 6*pw j=val f j*val g 6+Q*RI∧0≤Q∧Q<pw j
theorem TJ.lt {f g t:Nat→Int} {j:Nat} (h:TJ f g t j) (rf:Rg f j) (rg:Rg g 6) (lg:val g 6<RI):val t 6<2*RI:=by
 obtain ⟨-,Q,h1,h2,h3⟩:=h
 exact mont_lt h1 (val_bd rf) ⟨(val_bd rg).1,lg⟩ ⟨h2,h3⟩
theorem nt_top {t g:Nat→Int} {k:Int} (rt:Rg t 6) (rg:Rg g 6) (hk:0≤k∧k<B64) (h:val (nt t g k) 6<2*RI):0≤nt t g k 5∧nt t g k 5<B64:=by
 have c1:=(ct_bd rt rg hk).1
 have c2:=(ct_bd (tm_rg t g k 6) rL_rg (fm_bd (tm t g k))).1
 have a0:=(tm_rg (tm t g k) rL (fm (tm t g k)) 6 1 (by omega)).1
 have a1:=(tm_rg (tm t g k) rL (fm (tm t g k)) 6 2 (by omega)).1
 have a2:=(tm_rg (tm t g k) rL (fm (tm t g k)) 6 3 (by omega)).1
 have a3:=(tm_rg (tm t g k) rL (fm (tm t g k)) 6 4 (by omega)).1
 have a4:=(tm_rg (tm t g k) rL (fm (tm t g k)) 6 5 (by omega)).1
 simp only [val,pw] at h
 have e0:nt t g k 0=tm (tm t g k) rL (fm (tm t g k)) 1:=rfl
 have e1:nt t g k 1=tm (tm t g k) rL (fm (tm t g k)) 2:=rfl
 have e2:nt t g k 2=tm (tm t g k) rL (fm (tm t g k)) 3:=rfl
 have e3:nt t g k 3=tm (tm t g k) rL (fm (tm t g k)) 4:=rfl
 have e4:nt t g k 4=tm (tm t g k) rL (fm (tm t g k)) 5:=rfl
 have e5:nt t g k 5=ct t g k 6+ct (tm t g k) rL (fm (tm t g k)) 6:=rfl
 rw [← e0] at a0
 rw [← e1] at a1
 rw [← e2] at a2
 rw [← e3] at a3
 rw [← e4] at a4
 generalize nt t g k 0=x0 at *
 generalize nt t g k 1=x1 at *
 generalize nt t g k 2=x2 at *
 generalize nt t g k 3=x3 at *
 generalize nt t g k 4=x4 at *
 generalize nt t g k 5=x5 at *
 unfold RI at h
 rw [B64_eq] at *
 refine ⟨by omega,by omega⟩
theorem TJ.next {f g t:Nat→Int} {j:Nat} (h:TJ f g t j) (rf:Rg f (j+1)) (rg:Rg g 6) (lg:val g 6<RI):TJ f g (nt t g (f j)) (j+1):=by
 obtain ⟨rt,Q,h1,h2,h3⟩:=h
 have hk:=rf j (by omega)
 have e:=rd_inv h1 (nt_val t g (f j))
 have q:=rd_q h2 h3 (fm_bd (tm t g (f j))).1 (fm_bd (tm t g (f j))).2 (pw_pos j)
 have l:val (nt t g (f j)) 6<2*RI:=mont_lt (p:=pw (j+1)) e (val_bd rf) ⟨(val_bd rg).1,lg⟩ q
 refine ⟨fun i hi=>?_,_,e,q⟩
 rcases (show i=0∨i=1∨i=2∨i=3∨i=4∨i=5 by omega) with rfl | rfl | rfl | rfl | rfl | rfl
 ·exact tm_rg (tm t g (f j)) rL (fm (tm t g (f j))) 6 1 (by omega)
 ·exact tm_rg (tm t g (f j)) rL (fm (tm t g (f j))) 6 2 (by omega)
 ·exact tm_rg (tm t g (f j)) rL (fm (tm t g (f j))) 6 3 (by omega)
 ·exact tm_rg (tm t g (f j)) rL (fm (tm t g (f j))) 6 4 (by omega)
 ·exact tm_rg (tm t g (f j)) rL (fm (tm t g (f j))) 6 5 (by omega)
 ·exact nt_top rt rg hk l
theorem TJ.zero (f g:Nat→Int):TJ f g Z 0:=⟨Z_rg 6,0,by rw [val_Z];simp [val],Int.le_refl _,by simp [pw]⟩
theorem nt_wrap {f g t:Nat→Int} {j:Nat} (h:TJ f g t j) (rf:Rg f (j+1)) (rg:Rg g 6) (lg:val g 6<RI):IntKind.u64.wrap (ct t g (f j) 6+ct (tm t g (f j)) rL (fm (tm t g (f j))) 6)=nt t g (f j) 5:=by
 have:=(h.next rf rg lg).1 5 (by omega)
 rw [IntKind.wrap_u64]
 rw [B64_eq] at this
 exact Int.emod_eq_of_lt this.1 this.2
set_option maxRecDepth 8000 in
theorem times_any (f g:Nat→Int) (w:World) (rf:Rg f 6) (rg:Rg g 6) (lg:val g 6<RI) :
  Calls Tryz.prog 139 #[.agg #[.int .u64 (f 0),.int .u64 (f 1),.int .u64 (f 2),.int .u64 (f 3),.int .u64 (f 4),.int .u64 (f 5)],.agg #[.int .u64 (g 0),.int .u64 (g 1),.int .u64 (g 2),.int .u64 (g 3),.int .u64 (g 4),.int .u64 (g 5)]] w fun e w'=>∃ h:Nat→Int,e=.returned (.agg #[.int .u64 (h 0),.int .u64 (h 1),.int .u64 (h 2),.int .u64 (h 3),.int .u64 (h 4),.int .u64 (h 5)])∧Rg h 6∧val h 6<RI∧val h 6*pw 6%RI=val f 6*val g 6%RI∧Below w.heap.size w w':=by
 obtain ⟨B1,z1,hF,hG,hR⟩:=three_all w f g 30
 have hG4:=at6 hG
 unfold three at B1 z1 hF hG hR hG4
 go_enter Tryz.func139,Tryz.ntmps139
 go_wp2
 generalize ((w.alloc (.cells #[.int .u64 (f 0),.int .u64 (f 1),.int .u64 (f 2),.int .u64 (f 3),.int .u64 (f 4),.int .u64 (f 5)] 30)).alloc (.cells #[.int .u64 (g 0),.int .u64 (g 1),.int .u64 (g 2),.int .u64 (g 3),.int .u64 (g 4),.int .u64 (g 5)] 30)).alloc (.cells #[.int .u64 0,.int .u64 0,.int .u64 0,.int .u64 0,.int .u64 0,.int .u64 0] 30)=W at *
 have HB:Hid _:=B1
 have HR:Hid _:=hR
 have Z1:Hid _:=z1
 have RF:Hid _:=rf
 have RG:Hid _:=rg
 have LG:Hid _:=lg
 obtain ⟨g0,g1,g2,g3,g4,g5⟩:=hG4
 clear hF hG hR B1 z1 rf rg lg
 go_loopw [5,6,7,8,9,10,24] (fun a b c d p q i wr=>∃ (j:Nat) (t:Nat→Int),j≤6∧a=.int .u64 (t 0)∧b=.int .u64 (t 1)∧c=.int .u64 (t 2)∧d=.int .u64 (t 3)∧p=.int .u64 (t 4)∧q=.int .u64 (t 5)∧i=.int .i64 j∧TJ f g t j∧wr=W) (fun _ _ _ _ _ _ i _=>6-(intOf i).toNat)
 case atStart=>exact ⟨0,Z,by omega,rfl,rfl,rfl,rfl,rfl,rfl,rfl,TJ.zero f g,rfl⟩
 case round =>
  obtain ⟨j,t,hj,rfl,rfl,rfl,rfl,rfl,rfl,rfl,ht,rfl⟩:=hrel
  by_cases hlt:j<6
  ·have hk:=RF.out j hlt
   have rt:=ht.1
   have rgg:=RG.out
   have M0:∀ w,Calls Tryz.prog 151 #[.int .u64 (f j),.int .u64 (g 0),.int .u64 (t 0),.int .u64 0] w fun e w'=>e=.returned (.tuple #[.int .u64 (ct t g (f j) 1),.int .u64 (tm t g (f j) 0)])∧w'=w:=fun w=>mulAdd_ct t g (f j) 0 w hk (Rg.mono rt (by omega)) (Rg.mono rgg (by omega))
   have M1:∀ w,Calls Tryz.prog 151 #[.int .u64 (f j),.int .u64 (g 1),.int .u64 (t 1),.int .u64 (ct t g (f j) 1)] w fun e w'=>e=.returned (.tuple #[.int .u64 (ct t g (f j) 2),.int .u64 (tm t g (f j) 1)])∧w'=w:=fun w=>mulAdd_ct t g (f j) 1 w hk (Rg.mono rt (by omega)) (Rg.mono rgg (by omega))
   have M2:∀ w,Calls Tryz.prog 151 #[.int .u64 (f j),.int .u64 (g 2),.int .u64 (t 2),.int .u64 (ct t g (f j) 2)] w fun e w'=>e=.returned (.tuple #[.int .u64 (ct t g (f j) 3),.int .u64 (tm t g (f j) 2)])∧w'=w:=fun w=>mulAdd_ct t g (f j) 2 w hk (Rg.mono rt (by omega)) (Rg.mono rgg (by omega))
   have M3:∀ w,Calls Tryz.prog 151 #[.int .u64 (f j),.int .u64 (g 3),.int .u64 (t 3),.int .u64 (ct t g (f j) 3)] w fun e w'=>e=.returned (.tuple #[.int .u64 (ct t g (f j) 4),.int .u64 (tm t g (f j) 3)])∧w'=w:=fun w=>mulAdd_ct t g (f j) 3 w hk (Rg.mono rt (by omega)) (Rg.mono rgg (by omega))
   have M4:∀ w,Calls Tryz.prog 151 #[.int .u64 (f j),.int .u64 (g 4),.int .u64 (t 4),.int .u64 (ct t g (f j) 4)] w fun e w'=>e=.returned (.tuple #[.int .u64 (ct t g (f j) 5),.int .u64 (tm t g (f j) 4)])∧w'=w:=fun w=>mulAdd_ct t g (f j) 4 w hk (Rg.mono rt (by omega)) (Rg.mono rgg (by omega))
   have M5:∀ w,Calls Tryz.prog 151 #[.int .u64 (f j),.int .u64 (g 5),.int .u64 (t 5),.int .u64 (ct t g (f j) 5)] w fun e w'=>e=.returned (.tuple #[.int .u64 (ct t g (f j) 6),.int .u64 (tm t g (f j) 5)])∧w'=w:=fun w=>mulAdd_ct t g (f j) 5 w hk (Rg.mono rt (by omega)) (Rg.mono rgg (by omega))
   have N0:∀ w,Calls Tryz.prog 151 #[.int .u64 (fm (tm t g (f j))),.int .u64 13402431016077863595,.int .u64 (tm t g (f j) 0),.int .u64 0] w fun e w'=>e=.returned (.tuple #[.int .u64 (ct (tm t g (f j)) rL (fm (tm t g (f j))) 1),.int .u64 (tm (tm t g (f j)) rL (fm (tm t g (f j))) 0)])∧w'=w:=fun w=>mulAdd_ct (tm t g (f j)) rL (fm (tm t g (f j))) 0 w (fm_bd _) (tm_rg _ _ _ _) (Rg.mono rL_rg (by omega))
   have N1:∀ w,Calls Tryz.prog 151 #[.int .u64 (fm (tm t g (f j))),.int .u64 2210141511517208575,.int .u64 (tm t g (f j) 1),.int .u64 (ct (tm t g (f j)) rL (fm (tm t g (f j))) 1)] w fun e w'=>e=.returned (.tuple #[.int .u64 (ct (tm t g (f j)) rL (fm (tm t g (f j))) 2),.int .u64 (tm (tm t g (f j)) rL (fm (tm t g (f j))) 1)])∧w'=w:=fun w=>mulAdd_ct (tm t g (f j)) rL (fm (tm t g (f j))) 1 w (fm_bd _) (tm_rg _ _ _ _) (Rg.mono rL_rg (by omega))
   have N2:∀ w,Calls Tryz.prog 151 #[.int .u64 (fm (tm t g (f j))),.int .u64 7435674573564081700,.int .u64 (tm t g (f j) 2),.int .u64 (ct (tm t g (f j)) rL (fm (tm t g (f j))) 2)] w fun e w'=>e=.returned (.tuple #[.int .u64 (ct (tm t g (f j)) rL (fm (tm t g (f j))) 3),.int .u64 (tm (tm t g (f j)) rL (fm (tm t g (f j))) 2)])∧w'=w:=fun w=>mulAdd_ct (tm t g (f j)) rL (fm (tm t g (f j))) 2 w (fm_bd _) (tm_rg _ _ _ _) (Rg.mono rL_rg (by omega))
   have N3:∀ w,Calls Tryz.prog 151 #[.int .u64 (fm (tm t g (f j))),.int .u64 7239337960414712511,.int .u64 (tm t g (f j) 3),.int .u64 (ct (tm t g (f j)) rL (fm (tm t g (f j))) 3)] w fun e w'=>e=.returned (.tuple #[.int .u64 (ct (tm t g (f j)) rL (fm (tm t g (f j))) 4),.int .u64 (tm (tm t g (f j)) rL (fm (tm t g (f j))) 3)])∧w'=w:=fun w=>mulAdd_ct (tm t g (f j)) rL (fm (tm t g (f j))) 3 w (fm_bd _) (tm_rg _ _ _ _) (Rg.mono rL_rg (by omega))
   have N4:∀ w,Calls Tryz.prog 151 #[.int .u64 (fm (tm t g (f j))),.int .u64 5412103778470702295,.int .u64 (tm t g (f j) 4),.int .u64 (ct (tm t g (f j)) rL (fm (tm t g (f j))) 4)] w fun e w'=>e=.returned (.tuple #[.int .u64 (ct (tm t g (f j)) rL (fm (tm t g (f j))) 5),.int .u64 (tm (tm t g (f j)) rL (fm (tm t g (f j))) 4)])∧w'=w:=fun w=>mulAdd_ct (tm t g (f j)) rL (fm (tm t g (f j))) 4 w (fm_bd _) (tm_rg _ _ _ _) (Rg.mono rL_rg (by omega))
   have N5:∀ w,Calls Tryz.prog 151 #[.int .u64 (fm (tm t g (f j))),.int .u64 1873798617647539866,.int .u64 (tm t g (f j) 5),.int .u64 (ct (tm t g (f j)) rL (fm (tm t g (f j))) 5)] w fun e w'=>e=.returned (.tuple #[.int .u64 (ct (tm t g (f j)) rL (fm (tm t g (f j))) 6),.int .u64 (tm (tm t g (f j)) rL (fm (tm t g (f j))) 5)])∧w'=w:=fun w=>mulAdd_ct (tm t g (f j)) rL (fm (tm t g (f j))) 5 w (fm_bd _) (tm_rg _ _ _ _) (Rg.mono rL_rg (by omega))
   have hn:=ht.next (Rg.mono RF.out (show j+1≤6 by omega)) rgg LG.out
   have nw:=nt_wrap ht (Rg.mono RF.out (show j+1≤6 by omega)) rgg LG.out
   have hm:IntKind.u64.wrap (tm t g (f j) 0*9940570264628428797)=fm (tm t g (f j)):=by rw [IntKind.wrap_u64];unfold fm;rw [B64_eq]
   have n0:tm (tm t g (f j)) rL (fm (tm t g (f j))) 1=nt t g (f j) 0:=rfl
   have n1:tm (tm t g (f j)) rL (fm (tm t g (f j))) 2=nt t g (f j) 1:=rfl
   have n2:tm (tm t g (f j)) rL (fm (tm t g (f j))) 3=nt t g (f j) 2:=rfl
   have n3:tm (tm t g (f j)) rL (fm (tm t g (f j))) 4=nt t g (f j) 3:=rfl
   have n4:tm (tm t g (f j)) rL (fm (tm t g (f j))) 5=nt t g (f j) 4:=rfl
   generalize nt t g (f j)=T at *
   generalize ct t g (f j)=c at *
   generalize tm t g (f j)=s at *
   generalize fm s=m at *
   generalize ct s rL m=d at *
   generalize tm s rL m=u at *
   rw [n0] at N1
   rw [n1] at N2
   rw [n2] at N3
   rw [n3] at N4
   rw [n4] at N5
   have K0:Hid _:=M0
   have K1:Hid _:=M1
   have K2:Hid _:=M2
   have K3:Hid _:=M3
   have K4:Hid _:=M4
   have K5:Hid _:=M5
   have L0:Hid _:=N0
   have L1:Hid _:=N1
   have L2:Hid _:=N2
   have L3:Hid _:=N3
   have L4:Hid _:=N4
   have L5:Hid _:=N5
   have HM:Hid _:=hm
   have HW:Hid _:=nw
   have HT:Hid _:=hn
   clear M0 N0 M1 N1 M2 N2 M3 N3 M4 N4 M5 N5 hm nw hn n0 n1 n2 n3 n4 hk rt rgg ht
   obtain ⟨i0,i1,i2,i3,i4,i5⟩:=idx6 (f 0) (f 1) (f 2) (f 3) (f 4) (f 5)
   rcases (show j=0∨j=1∨j=2∨j=3∨j=4∨j=5 by omega) with rfl | rfl | rfl | rfl | rfl | rfl
   all_goals
    clear hj hlt
    go_wp2_with (first
     | (rw [HM.out];go_at_call_of 151 (Value.int .u64 (s 0));refine Calls.mono (L0.out _) ?_;rintro e w' ⟨rfl,rfl⟩)
     | (go_at_call_of 151 (Value.int .u64 (t 0));refine Calls.mono (K0.out _) ?_;rintro e w' ⟨rfl,rfl⟩)
     | (go_at_call_of 151 (Value.int .u64 (t 1));refine Calls.mono (K1.out _) ?_;rintro e w' ⟨rfl,rfl⟩)
     | (go_at_call_of 151 (Value.int .u64 (t 2));refine Calls.mono (K2.out _) ?_;rintro e w' ⟨rfl,rfl⟩)
     | (go_at_call_of 151 (Value.int .u64 (t 3));refine Calls.mono (K3.out _) ?_;rintro e w' ⟨rfl,rfl⟩)
     | (go_at_call_of 151 (Value.int .u64 (t 4));refine Calls.mono (K4.out _) ?_;rintro e w' ⟨rfl,rfl⟩)
     | (go_at_call_of 151 (Value.int .u64 (t 5));refine Calls.mono (K5.out _) ?_;rintro e w' ⟨rfl,rfl⟩)
     | (go_at_call_of 151 (Value.int .u64 (s 1));refine Calls.mono (L1.out _) ?_;rintro e w' ⟨rfl,rfl⟩)
     | (go_at_call_of 151 (Value.int .u64 (s 2));refine Calls.mono (L2.out _) ?_;rintro e w' ⟨rfl,rfl⟩)
     | (go_at_call_of 151 (Value.int .u64 (s 3));refine Calls.mono (L3.out _) ?_;rintro e w' ⟨rfl,rfl⟩)
     | (go_at_call_of 151 (Value.int .u64 (s 4));refine Calls.mono (L4.out _) ?_;rintro e w' ⟨rfl,rfl⟩)
     | (go_at_call_of 151 (Value.int .u64 (s 5));refine Calls.mono (L5.out _) ?_;rintro e w' ⟨rfl,rfl⟩))
    rw [HW.out]
    go_roundw
    case rel=>exact ⟨_,T,Nat.succ_le_of_lt (by decide),rfl,rfl,rfl,rfl,rfl,rfl,by go_num,HT.out,by first | trivial | rfl⟩
    case measure=>simp [intOf]
  ·have e:j=6:=by omega
   subst e
   have K:Hid _:=fun w=>bring_any t w ht.1 (ht.lt RF.out RG.out LG.out)
   obtain ⟨rt,Q,q1,-,-⟩:=ht
   have V:Hid (∀ x,x=val t 6%RI→x<RI∧x*pw 6%RI=val f 6*val g 6%RI):=fun x hx=>by
    subst hx
    exact ⟨modR_lt _,by rw [mul_mod_l];exact mont_mod q1⟩
   clear q1 rt
   go_wp2_with fail
   refine Calls.mono (K.out _) ?_
   rintro e w2 ⟨h,rfl,r2,v2,b2⟩
   obtain ⟨y0,y1,y2,y3,y4,y5⟩:=(MutK.below HR.out b2 (by rw [Z1.out];omega)).cells6
   obtain ⟨x0,x1,x2,x3,x4,x5⟩:=(MutK.below HR.out b2 (by rw [Z1.out];omega)).free6
   have HB2:Hid _:=Below.up HB.out (Nat.le_refl _) b2
   have R2:Hid _:=r2
   have V2:Hid _:=V.out _ v2
   clear b2 r2 v2
   go_wp2
   refine bodyPost_ret (v:=.agg #[.int .u64 (h 0),.int .u64 (h 1),.int .u64 (h 2),.int .u64 (h 3),.int .u64 (h 4),.int .u64 (h 5)]) (by simp [results,Tryz.results139,go_sem,y0,y1,y2,y3,y4,y5]) rfl ⟨h,rfl,R2.out,(V2.out).1,(V2.out).2,?_⟩
   exact below_set6 HB2.out (by omega) _ _ _ _ _ _
end Go.Proofs.YthnfgmhehfombaaGreatDoor.fpn
/- Great. -/
namespace Go.Proofs.YthnfgmhehfombaaGreatDoor.fpn
open Go.RowKit
attribute [local go_sem ↓] Go.wp_at_zero Go.wp_at_succ
def hL:Nat→Int
 | 0=>15924587544893707605
 | 1=>1105070755758604287
 | 2=>12941209323636816658
 | 3=>12843041017062132063
 | 4=>2706051889235351147
 | 5=>936899308823769933
 | _=>0
def Gl (w:World):Prop:=True∧At w (some ⟨1,0,none⟩) 6 cL
theorem Gl.stay {w x:World} (h:Gl w) (b:Below w.heap.size w x):Gl x:=⟨trivial,AtK.below h.2 b⟩
end Go.Proofs.YthnfgmhehfombaaGreatDoor.fpn
/- May. -/
namespace Go.Proofs.YthnfgmhehfombaaGreatDoor.fpn
open Go.RowKit
attribute [local go_sem ↓] Go.wp_at_zero Go.wp_at_succ
theorem may_at (f h:Nat→Int) (c:Int) (r:Bool) (w:World) (K:∀ w,Calls Tryz.prog 135 #[.agg #[.int .u64 (f 0),.int .u64 (f 1),.int .u64 (f 2),.int .u64 (f 3),.int .u64 (f 4),.int .u64 (f 5)],.agg #[.int .u64 (rL 0),.int .u64 (rL 1),.int .u64 (rL 2),.int .u64 (rL 3),.int .u64 (rL 4),.int .u64 (rL 5)]] w fun e w'=>e=.returned (.tuple #[.agg #[.int .u64 (h 0),.int .u64 (h 1),.int .u64 (h 2),.int .u64 (h 3),.int .u64 (h 4),.int .u64 (h 5)],.int .u64 c])∧Below w.heap.size w w') (hc:Hid ((c=0∧r=false)∨(c=1∧r=true))) :
  Calls Tryz.prog 116 #[.agg #[.int .u64 (f 0),.int .u64 (f 1),.int .u64 (f 2),.int .u64 (f 3),.int .u64 (f 4),.int .u64 (f 5)]] w fun e w'=>e=.returned (.bool r)∧Below w.heap.size w w':=by
 have HK:Hid _:=K
 clear K
 have B1:=below_one w (.cells #[.int .u64 (f 0),.int .u64 (f 1),.int .u64 (f 2),.int .u64 (f 3),.int .u64 (f 4),.int .u64 (f 5)] 30)
 have hF:=mut_four w f 30
 have z1:=World.size_alloc w (.cells #[.int .u64 (f 0),.int .u64 (f 1),.int .u64 (f 2),.int .u64 (f 3),.int .u64 (f 4),.int .u64 (f 5)] 30)
 go_enter Tryz.func116,Tryz.ntmps116
 go_wp2_with fail
 generalize w.alloc (.cells #[.int .u64 (f 0),.int .u64 (f 1),.int .u64 (f 2),.int .u64 (f 3),.int .u64 (f 4),.int .u64 (f 5)] 30)=W at *
 have HS:Hid (∀ x,Below W.heap.size W x→(x.cell? ⟨w.heap.size,0,none⟩=some (.int .u64 (f 0))∧x.cell? ⟨w.heap.size,1,none⟩=some (.int .u64 (f 1))∧x.cell? ⟨w.heap.size,2,none⟩=some (.int .u64 (f 2))∧x.cell? ⟨w.heap.size,3,none⟩=some (.int .u64 (f 3))∧x.cell? ⟨w.heap.size,4,none⟩=some (.int .u64 (f 4))∧x.cell? ⟨w.heap.size,5,none⟩=some (.int .u64 (f 5)))):=fun x hx=>at6 (hF.at.below hx)
 have B1':Hid _:=B1
 have lt1:w.heap.size<W.heap.size:=by rw [z1];omega
 clear hF B1 z1
 obtain ⟨a0,a1,a2,a3,a4,a5⟩:=HS.out _ (Below.refl _ _)
 go_region_with (first
  | (go_at_call 136;refine Calls.mono (prime_any _) ?_;rintro e x1 ⟨rfl,b1⟩;first | (have BX:Below W.heap.size W x1:=below_drew b1;have lt2:w.heap.size<x1.heap.size:=Nat.lt_of_lt_of_le lt1 BX.size;have BW2:Hid _:=BX;obtain ⟨e0,e1,e2,e3,e4,e5⟩:=HS.out _ BX;clear BX b1) | (have BX:Below W.heap.size W x1:=(boxB b1).1;have lt2:w.heap.size<x1.heap.size:=Nat.lt_of_lt_of_le lt1 BX.size;have MD:Hid (Mut x1 W.heap.size 0 6 Z):=(boxB b1).2;have BW2:Hid _:=BX;obtain ⟨e0,e1,e2,e3,e4,e5⟩:=HS.out _ BX;clear BX b1))
  | (go_at_call 135;refine Calls.mono (HK.out _) ?_;rintro e x2 ⟨rfl,b2⟩;first | (have BX:Below W.heap.size W x2:=Below.up BW2.out (Nat.le_refl _) b2;have MD2:Hid (Mut x2 W.heap.size 0 6 Z):=MutK.below MD.out b2 (cell_lt (MutK.cells6 MD.out).1);have BW3:Hid _:=BX;obtain ⟨m0,m1,m2,m3,m4,m5⟩:=MutK.cells6 MD2.out;obtain ⟨n0,n1,n2,n3,n4,n5⟩:=MutK.free6 MD2.out;clear BX b2) | (have BX:Below W.heap.size W x2:=Below.up BW2.out (Nat.le_refl _) (boxA b2).1;have MD2:Hid (Mut x2 x1.heap.size 0 6 Z):=(boxA b2).2;have BW3:Hid _:=BX;obtain ⟨m0,m1,m2,m3,m4,m5⟩:=MutK.cells6 MD2.out;obtain ⟨n0,n1,n2,n3,n4,n5⟩:=MutK.free6 MD2.out;clear BX b2) | (have BX:Below W.heap.size W x2:=Below.up BW2.out (Nat.le_refl _) b2;have BW3:Hid _:=BX;clear BX b2)))
 all_goals
  first
  | (have q:=finB (b:=W.heap.size) h BW3.out (by with_reducible exact MD2.out) (Nat.le_refl _);generalize (((((x2.setCell ⟨W.heap.size,0,none⟩ (.int .u64 (h 0))).setCell ⟨W.heap.size,1,none⟩ (.int .u64 (h 1))).setCell ⟨W.heap.size,2,none⟩ (.int .u64 (h 2))).setCell ⟨W.heap.size,3,none⟩ (.int .u64 (h 3))).setCell ⟨W.heap.size,4,none⟩ (.int .u64 (h 4))).setCell ⟨W.heap.size,5,none⟩ (.int .u64 (h 5))=V at q ⊢;obtain ⟨bv,mv⟩:=q;obtain ⟨v0,v1,v2,v3,v4,v5⟩:=MutK.cells6 mv;have HV:Hid (∀ x,Below V.heap.size V x→(x.cell? ⟨W.heap.size,0,none⟩=some (.int .u64 (h 0))∧x.cell? ⟨W.heap.size,1,none⟩=some (.int .u64 (h 1))∧x.cell? ⟨W.heap.size,2,none⟩=some (.int .u64 (h 2))∧x.cell? ⟨W.heap.size,3,none⟩=some (.int .u64 (h 3))∧x.cell? ⟨W.heap.size,4,none⟩=some (.int .u64 (h 4))∧x.cell? ⟨W.heap.size,5,none⟩=some (.int .u64 (h 5)))):=fun x hx=>at6 (mv.at.below hx);clear mv)
  | (have q:=finB (b:=x1.heap.size) h BW3.out (by with_reducible exact MD2.out) (Below.size BW2.out);generalize (((((x2.setCell ⟨x1.heap.size,0,none⟩ (.int .u64 (h 0))).setCell ⟨x1.heap.size,1,none⟩ (.int .u64 (h 1))).setCell ⟨x1.heap.size,2,none⟩ (.int .u64 (h 2))).setCell ⟨x1.heap.size,3,none⟩ (.int .u64 (h 3))).setCell ⟨x1.heap.size,4,none⟩ (.int .u64 (h 4))).setCell ⟨x1.heap.size,5,none⟩ (.int .u64 (h 5))=V at q ⊢;obtain ⟨bv,mv⟩:=q;obtain ⟨v0,v1,v2,v3,v4,v5⟩:=MutK.cells6 mv;have HV:Hid (∀ x,Below V.heap.size V x→(x.cell? ⟨x1.heap.size,0,none⟩=some (.int .u64 (h 0))∧x.cell? ⟨x1.heap.size,1,none⟩=some (.int .u64 (h 1))∧x.cell? ⟨x1.heap.size,2,none⟩=some (.int .u64 (h 2))∧x.cell? ⟨x1.heap.size,3,none⟩=some (.int .u64 (h 3))∧x.cell? ⟨x1.heap.size,4,none⟩=some (.int .u64 (h 4))∧x.cell? ⟨x1.heap.size,5,none⟩=some (.int .u64 (h 5)))):=fun x hx=>at6 (mv.at.below hx);clear mv)
  | (have q:=finA (t:=30) h BW3.out;generalize x2.alloc (.cells #[.int .u64 (h 0),.int .u64 (h 1),.int .u64 (h 2),.int .u64 (h 3),.int .u64 (h 4),.int .u64 (h 5)] 30)=V at q ⊢;obtain ⟨bv,mv⟩:=q;obtain ⟨v0,v1,v2,v3,v4,v5⟩:=MutK.cells6 mv;have HV:Hid (∀ x,Below V.heap.size V x→(x.cell? ⟨x2.heap.size,0,none⟩=some (.int .u64 (h 0))∧x.cell? ⟨x2.heap.size,1,none⟩=some (.int .u64 (h 1))∧x.cell? ⟨x2.heap.size,2,none⟩=some (.int .u64 (h 2))∧x.cell? ⟨x2.heap.size,3,none⟩=some (.int .u64 (h 3))∧x.cell? ⟨x2.heap.size,4,none⟩=some (.int .u64 (h 4))∧x.cell? ⟨x2.heap.size,5,none⟩=some (.int .u64 (h 5)))):=fun x hx=>at6 (mv.at.below hx);clear mv)
  have HB:Hid _:=Below.up B1'.out (Nat.le_refl _) bv
  clear bv HS BW2 BW3 a0 a1 a2 a3 a4 a5 e0 e1 e2 e3 e4 e5 HK HV
  rcases hc.out with ⟨rfl,rfl⟩ | ⟨rfl,rfl⟩
  ·go_wp2
   go_ret
   exact ⟨rfl,HB.out⟩
  ·go_wp2
   go_ret
   exact ⟨rfl,HB.out⟩
theorem frMay_any (f:Nat→Int) (w:World) (rf:Rg f 6):Calls Tryz.prog 116 #[.agg #[.int .u64 (f 0),.int .u64 (f 1),.int .u64 (f 2),.int .u64 (f 3),.int .u64 (f 4),.int .u64 (f 5)]] w fun e w'=>e=.returned (.bool (decide (val f 6<RI)))∧Below w.heap.size w w':=by
 have v1:=lessR_val rf
 have d1:=val_bd (df_rg f rL 6)
 have d0:=val_bd rf
 have hb:=bw_bd f rL 6
 refine may_at f (df f rL) (bw f rL 6) _ w (fun w=>less_any f rL w rf rL_rg) ?_
 show _∨_
 rcases (show bw f rL 6=0∨bw f rL 6=1 by omega) with e | e
 ·left;rw [e] at v1;exact ⟨e,decide_eq_false (by omega)⟩
 ·right;rw [e] at v1;exact ⟨e,decide_eq_true (by omega)⟩
end Go.Proofs.YthnfgmhehfombaaGreatDoor.fpn
/- Sub, Neg. -/
namespace Go.Proofs.YthnfgmhehfombaaGreatDoor.fpn
open Go.RowKit
attribute [local go_sem ↓] Go.wp_at_zero Go.wp_at_succ
set_option maxHeartbeats 8000000 in
theorem sub_at (f g h k:Nat→Int) (c:Int) (w:World) (K:∀ w,Calls Tryz.prog 135 #[.agg #[.int .u64 (f 0),.int .u64 (f 1),.int .u64 (f 2),.int .u64 (f 3),.int .u64 (f 4),.int .u64 (f 5)],.agg #[.int .u64 (g 0),.int .u64 (g 1),.int .u64 (g 2),.int .u64 (g 3),.int .u64 (g 4),.int .u64 (g 5)]] w fun e w'=>e=.returned (.tuple #[.agg #[.int .u64 (h 0),.int .u64 (h 1),.int .u64 (h 2),.int .u64 (h 3),.int .u64 (h 4),.int .u64 (h 5)],.int .u64 c])∧Below w.heap.size w w')
  (KP:∀ w,Calls Tryz.prog 138 #[.agg #[.int .u64 (h 0),.int .u64 (h 1),.int .u64 (h 2),.int .u64 (h 3),.int .u64 (h 4),.int .u64 (h 5)],.agg #[.int .u64 (rL 0),.int .u64 (rL 1),.int .u64 (rL 2),.int .u64 (rL 3),.int .u64 (rL 4),.int .u64 (rL 5)]] w fun e w'=>e=.returned (.agg #[.int .u64 (k 0),.int .u64 (k 1),.int .u64 (k 2),.int .u64 (k 3),.int .u64 (k 4),.int .u64 (k 5)])∧Below w.heap.size w w') (r:Nat→Int) (hc:Hid ((c=0∧r=h)∨(c=1∧r=k))) :
  Calls Tryz.prog 125 #[.agg #[.int .u64 (f 0),.int .u64 (f 1),.int .u64 (f 2),.int .u64 (f 3),.int .u64 (f 4),.int .u64 (f 5)],.agg #[.int .u64 (g 0),.int .u64 (g 1),.int .u64 (g 2),.int .u64 (g 3),.int .u64 (g 4),.int .u64 (g 5)]] w fun e w'=>e=.returned (.agg #[.int .u64 (r 0),.int .u64 (r 1),.int .u64 (r 2),.int .u64 (r 3),.int .u64 (r 4),.int .u64 (r 5)])∧Below w.heap.size w w':=by
 have HK:Hid _:=K
 have HP:Hid _:=KP
 clear K KP
 obtain ⟨B1,z1,hF,hG,hR⟩:=three_all w f g 30
 unfold three at B1 z1 hF hG hR
 go_enter Tryz.func125,Tryz.ntmps125
 go_wp2_with fail
 generalize ((w.alloc (.cells #[.int .u64 (f 0),.int .u64 (f 1),.int .u64 (f 2),.int .u64 (f 3),.int .u64 (f 4),.int .u64 (f 5)] 30)).alloc (.cells #[.int .u64 (g 0),.int .u64 (g 1),.int .u64 (g 2),.int .u64 (g 3),.int .u64 (g 4),.int .u64 (g 5)] 30)).alloc (.cells #[.int .u64 0,.int .u64 0,.int .u64 0,.int .u64 0,.int .u64 0,.int .u64 0] 30)=W at *
 refine Calls.mono (HK.out _) ?_
 rintro e w2 ⟨rfl,b2⟩
 have bv:=Below.up b2 (Nat.le_refl _) (below_one w2 (.cells #[.int .u64 (h 0),.int .u64 (h 1),.int .u64 (h 2),.int .u64 (h 3),.int .u64 (h 4),.int .u64 (h 5)] 30))
 have lt2:w.heap.size+2<W.heap.size:=by rw [z1];omega
 have mv:=mut_four w2 h 30
 have HRV:Hid _:=MutK.below hR bv lt2
 have B1V:Hid _:=Below.up B1 (Nat.le_refl _) bv
 obtain ⟨y0,y1,y2,y3,y4,y5⟩:=MutK.cells6 HRV.out
 obtain ⟨q0,q1,q2,q3,q4,q5⟩:=MutK.free6 HRV.out
 clear bv HK lt2 hF hG hR B1 z1 b2
 rcases hc.out with ⟨rfl,rfl⟩ | ⟨rfl,rfl⟩
 ·clear HP hc mv
  go_wp2
  refine bodyPost_ret (v:=.agg #[.int .u64 (r 0),.int .u64 (r 1),.int .u64 (r 2),.int .u64 (r 3),.int .u64 (r 4),.int .u64 (r 5)]) (by simp [results,Tryz.results125,go_sem,y0,y1,y2,y3,y4,y5]) rfl ⟨rfl,?_⟩
  exact below_set6 B1V.out (by omega) _ _ _ _ _ _
 ·clear hc y0 y1 y2 y3 y4 y5 q0 q1 q2 q3 q4 q5
  go_wp2_with fail
  generalize w2.alloc (.cells #[.int .u64 (h 0),.int .u64 (h 1),.int .u64 (h 2),.int .u64 (h 3),.int .u64 (h 4),.int .u64 (h 5)] 30)=V at *
  obtain ⟨v0,v1,v2,v3,v4,v5⟩:=MutK.cells6 mv
  have HV:Hid (∀ x,Below V.heap.size V x→(x.cell? ⟨w2.heap.size,0,none⟩=some (.int .u64 (h 0))∧x.cell? ⟨w2.heap.size,1,none⟩=some (.int .u64 (h 1))∧x.cell? ⟨w2.heap.size,2,none⟩=some (.int .u64 (h 2))∧x.cell? ⟨w2.heap.size,3,none⟩=some (.int .u64 (h 3))∧x.cell? ⟨w2.heap.size,4,none⟩=some (.int .u64 (h 4))∧x.cell? ⟨w2.heap.size,5,none⟩=some (.int .u64 (h 5)))):=fun x hx=>at6 (mv.at.below hx)
  have ltV:w.heap.size+2<V.heap.size:=cell_lt (MutK.cells6 HRV.out).1
  clear mv
  go_region_with (first
   | (go_at_call 136;refine Calls.mono (prime_any _) ?_;rintro e x3 ⟨rfl,b3⟩;have BX:Below V.heap.size V x3:=below_drew b3;obtain ⟨e0,e1,e2,e3,e4,e5⟩:=HV.out _ BX;have BV3:Hid _:=BX;clear BX b3)
   | (go_at_call 138;refine Calls.mono (HP.out _) ?_;rintro e x4 ⟨rfl,b4⟩;have BX:Below V.heap.size V x4:=Below.up BV3.out (Nat.le_refl _) b4;obtain ⟨y0,y1,y2,y3,y4,y5⟩:=MutK.cells6 (MutK.below HRV.out BX ltV);obtain ⟨q0,q1,q2,q3,q4,q5⟩:=MutK.free6 (MutK.below HRV.out BX ltV);have BV4:Hid _:=BX;clear BX b4))
  all_goals
   go_wp2
   refine bodyPost_ret (v:=.agg #[.int .u64 (r 0),.int .u64 (r 1),.int .u64 (r 2),.int .u64 (r 3),.int .u64 (r 4),.int .u64 (r 5)]) (by simp [results,Tryz.results125,go_sem,y0,y1,y2,y3,y4,y5]) rfl ⟨rfl,?_⟩
   exact below_set6 (Below.up B1V.out (Nat.le_refl _) BV4.out) (by omega) _ _ _ _ _ _
theorem sub_more {f g:Nat→Int} (rf:Rg f 6) (rg:Rg g 6) (lf:val f 6<RI) (lg:val g 6<RI) (hb:bw f g 6=1):val (sm (df f g) rL 0) 6=(val f 6-val g 6)%RI:=by
 have v1:=val_df rf rg
 have v2:=val_sm (df f g) rL 0 6
 have d1:=val_bd (df_rg f g 6)
 have d2:=val_bd (sm_rg (df f g) rL 0 6)
 have c:=cy_bd (df_rg f g 6) rL_rg (c:=0) ⟨by decide,by decide⟩
 have df0:=(val_bd rf).1
 have dg0:=(val_bd rg).1
 have hpw:2*RI<pw 6:=by decide +kernel
 rw [hb] at v1
 rw [rL_val] at v2
 have hp:=RI_pos
 have e:val (sm (df f g) rL 0) 6=val f 6-val g 6+RI:=by
  rcases (show cy (df f g) rL 0 6=0∨cy (df f g) rL 0 6=1 by omega) with h | h<;>rw [h] at v2<;>omega
 rw [e,← Int.add_emod_right (val f 6-val g 6) RI]
 exact (Int.emod_eq_of_lt (by omega) (by omega)).symm
theorem sub_less {f g:Nat→Int} (rf:Rg f 6) (rg:Rg g 6) (lf:val f 6<RI) (hb:bw f g 6=0):val (df f g) 6=(val f 6-val g 6)%RI:=by
 have v1:=val_df rf rg
 have d1:=val_bd (df_rg f g 6)
 have dg0:=(val_bd rg).1
 rw [hb] at v1
 rw [show val f 6-val g 6=val (df f g) 6 by omega]
 exact (Int.emod_eq_of_lt (by omega) (by omega)).symm
theorem frSub_any (f g:Nat→Int) (w:World) (rf:Rg f 6) (rg:Rg g 6) (lf:val f 6<RI) (lg:val g 6<RI) :
  Calls Tryz.prog 125 #[.agg #[.int .u64 (f 0),.int .u64 (f 1),.int .u64 (f 2),.int .u64 (f 3),.int .u64 (f 4),.int .u64 (f 5)],.agg #[.int .u64 (g 0),.int .u64 (g 1),.int .u64 (g 2),.int .u64 (g 3),.int .u64 (g 4),.int .u64 (g 5)]] w fun e w'=>∃ h:Nat→Int,e=.returned (.agg #[.int .u64 (h 0),.int .u64 (h 1),.int .u64 (h 2),.int .u64 (h 3),.int .u64 (h 4),.int .u64 (h 5)])∧Rg h 6∧val h 6=(val f 6-val g 6)%RI∧Below w.heap.size w w':=by
 have hb:=bw_bd f g 6
 have K:=fun r hc=>sub_at f g (df f g) (sm (df f g) rL 0) (bw f g 6) w (fun w=>less_any f g w rf rg) (fun w=>plus_any (df f g) rL w (df_rg f g 6) rL_rg) r hc
 rcases (show bw f g 6=0∨bw f g 6=1 by omega) with e | e
 ·refine Calls.mono (K (df f g) (Or.inl ⟨e,rfl⟩)) ?_
  rintro e' w' ⟨rfl,b⟩
  exact ⟨_,rfl,df_rg f g 6,sub_less rf rg lf e,b⟩
 ·refine Calls.mono (K (sm (df f g) rL 0) (Or.inr ⟨e,rfl⟩)) ?_
  rintro e' w' ⟨rfl,b⟩
  exact ⟨_,rfl,sm_rg _ _ _ _,sub_more rf rg lf lg e,b⟩
theorem frNeg_any (f:Nat→Int) (w:World) (rf:Rg f 6) (lf:val f 6<RI):Calls Tryz.prog 145 #[.agg #[.int .u64 (f 0),.int .u64 (f 1),.int .u64 (f 2),.int .u64 (f 3),.int .u64 (f 4),.int .u64 (f 5)]] w fun e w'=>∃ h:Nat→Int,e=.returned (.agg #[.int .u64 (h 0),.int .u64 (h 1),.int .u64 (h 2),.int .u64 (h 3),.int .u64 (h 4),.int .u64 (h 5)])∧Rg h 6∧val h 6=(0-val f 6)%RI∧Below w.heap.size w w':=by
 have K:∀ W:World,Calls Tryz.prog 125 #[.agg #[.int .u64 0,.int .u64 0,.int .u64 0,.int .u64 0,.int .u64 0,.int .u64 0],.agg #[.int .u64 (f 0),.int .u64 (f 1),.int .u64 (f 2),.int .u64 (f 3),.int .u64 (f 4),.int .u64 (f 5)]] W fun e w'=>∃ h:Nat→Int,e=.returned (.agg #[.int .u64 (h 0),.int .u64 (h 1),.int .u64 (h 2),.int .u64 (h 3),.int .u64 (h 4),.int .u64 (h 5)])∧Rg h 6∧val h 6=(0-val f 6)%RI∧Below W.heap.size W w':=fun W=>by
  have:=frSub_any Z f W (Z_rg 6) rf (by rw [val_Z];decide) lf
  rw [val_Z] at this
  exact this
 have HK:Hid _:=K
 clear K
 obtain ⟨B1,z1,-,hR⟩:=pair_all w f 30
 unfold pair at B1 z1 hR
 go_enter Tryz.func145,Tryz.ntmps145
 go_wp2_with fail
 generalize (w.alloc (.cells #[.int .u64 (f 0),.int .u64 (f 1),.int .u64 (f 2),.int .u64 (f 3),.int .u64 (f 4),.int .u64 (f 5)] 30)).alloc (.cells #[.int .u64 0,.int .u64 0,.int .u64 0,.int .u64 0,.int .u64 0,.int .u64 0] 30)=W at *
 refine Calls.mono (HK.out _) ?_
 rintro e w2 ⟨h,rfl,r2,v2,b2⟩
 obtain ⟨y0,y1,y2,y3,y4,y5⟩:=(hR.below b2 (by rw [z1];omega)).cells6
 obtain ⟨x0,x1,x2,x3,x4,x5⟩:=(hR.below b2 (by rw [z1];omega)).free6
 have HB:Hid _:=Below.up B1 (Nat.le_refl _) b2
 have R2:Hid _:=r2
 have V2:Hid _:=v2
 clear b2 B1 hR r2 v2
 go_wp2
 refine bodyPost_ret (v:=.agg #[.int .u64 (h 0),.int .u64 (h 1),.int .u64 (h 2),.int .u64 (h 3),.int .u64 (h 4),.int .u64 (h 5)]) (by simp [results,Tryz.results145,go_sem,y0,y1,y2,y3,y4,y5]) rfl ⟨h,rfl,R2.out,V2.out,?_⟩
 exact below_set6 HB.out (by omega) _ _ _ _ _ _
end Go.Proofs.YthnfgmhehfombaaGreatDoor.fpn
/- What lift, drop, bitAt, Mul, Pow, Inv and Root of package fr answer. -/
namespace Go.Proofs.YthnfgmhehfombaaGreatDoor.fpn
open Go.RowKit
attribute [local go_sem ↓] Go.wp_at_zero Go.wp_at_succ
def Exit.jump2 (J0 J1:Act→World→Prop) (Q:Exit→Act→World→Prop):Exit→Act→World→Prop
 | .goto l,a,w=>(l=0∧J0 a w)∨(l=1∧J1 a w)
 | e,a,w=>Q e a w
theorem wp_scope_two {P:Program} {a:Act} {w:World} {Q:Exit→Act→World→Prop} {c r0 r1:Code} (J0 J1:Act→World→Prop) (m0 m1:Act→World→Nat)
  (hf0:findLabel c 0=some (.seq .skip r0)) (hf1:findLabel c 1=some (.seq .skip r1))
  (pass1:∀ a w,J1 a w→r1.wp P (Exit.jump2 (fun _ _=>False) (fun a' w'=>J1 a' w'∧m1 a' w'<m1 a w) Q) a w)
  (pass0:(∀ J a w,J1 a w→r1.wp P (Exit.jump2 J J1 Q) a w)→∀ a w,J0 a w→r0.wp P (Exit.jump2 (fun a' w'=>J0 a' w'∧m0 a' w'<m0 a w) J1 Q) a w)
  (first:(∀ a w,J0 a w→r0.wp P (Exit.jump2 J0 J1 Q) a w)→c.wp P (Exit.jump2 J0 J1 Q) a w):(Code.scope c).wp P Q a w:=by
 have h1:∀ J a w,J1 a w→r1.wp P (Exit.jump2 J J1 Q) a w:=fun J a w h=>wp_mono (pass1 a w h) (fun e a w q=>by
  cases e<;>first | exact q | (rcases q with ⟨_,q⟩ | ⟨q1,q2,_⟩;exact q.elim;exact Or.inr ⟨q1,q2⟩))
 have p0:=pass0 h1
 have h0:∀ a w,J0 a w→r0.wp P (Exit.jump2 J0 J1 Q) a w:=fun a w h=>wp_mono (p0 a w h) (fun e a w q=>by
  cases e<;>first | exact q | (rcases q with ⟨q1,q2,_⟩ | q;exact Or.inl ⟨q1,q2⟩;exact Or.inr q))
 have f:=first h0
 intro b k cs
 have hg0:gotoIn 0 (.inScope c :: k)=some (.code (.seq .skip r0) :: .inScope c :: k):=by simp [gotoIn,hf0]
 have hg1:gotoIn 1 (.inScope c :: k)=some (.code (.seq .skip r1) :: .inScope c :: k):=by simp [gotoIn,hf1]
 have key1:∀ n a w,m1 a w=n→J1 a w→∃ e a' w',Q e a' w'∧Arrives P (lone (b.at a (.code (.seq .skip r1) :: .inScope c :: k)) cs w) b k cs e a' w':=by
  intro n
  induction n using Nat.strongRecOn with
  | _ n ih =>
   intro a w hn hJ
   obtain ⟨e,a1,w1,hq,harr⟩:=wp_seq (wp_skip (pass1 a w hJ)) b (.inScope c :: k) cs
   cases e with
   | normal=>exact ⟨.normal,a1,w1,hq,Steps.trans harr (.one step_inScope)⟩
   | exit id=>exact ⟨.exit id,a1,w1,hq,fun k' hk=>harr k' (by simp [exitTo,hk])⟩
   | goto l' =>
    rcases hq with ⟨_,hq⟩ | ⟨rfl,hJ',hlt⟩
    ·exact hq.elim
    ·obtain ⟨e2,a2,w2,hq2,harr2⟩:=ih _ (by omega) a1 w1 rfl hJ'
     exact ⟨e2,a2,w2,hq2,.of_steps (harr _ hg1) harr2⟩
   | ret=>exact ⟨_,a1,w1,hq,harr⟩
   | panic ch=>exact ⟨_,a1,w1,hq,harr⟩
   | outgrown=>exact ⟨_,a1,w1,hq,harr⟩
 have key0:∀ n a w,m0 a w=n→J0 a w→∃ e a' w',Q e a' w'∧Arrives P (lone (b.at a (.code (.seq .skip r0) :: .inScope c :: k)) cs w) b k cs e a' w':=by
  intro n
  induction n using Nat.strongRecOn with
  | _ n ih =>
   intro a w hn hJ
   obtain ⟨e,a1,w1,hq,harr⟩:=wp_seq (wp_skip (p0 a w hJ)) b (.inScope c :: k) cs
   cases e with
   | normal=>exact ⟨.normal,a1,w1,hq,Steps.trans harr (.one step_inScope)⟩
   | exit id=>exact ⟨.exit id,a1,w1,hq,fun k' hk=>harr k' (by simp [exitTo,hk])⟩
   | goto l' =>
    rcases hq with ⟨rfl,hJ',hlt⟩ | ⟨rfl,hJ'⟩
    ·obtain ⟨e2,a2,w2,hq2,harr2⟩:=ih _ (by omega) a1 w1 rfl hJ'
     exact ⟨e2,a2,w2,hq2,.of_steps (harr _ hg0) harr2⟩
    ·obtain ⟨e2,a2,w2,hq2,harr2⟩:=key1 _ a1 w1 rfl hJ'
     exact ⟨e2,a2,w2,hq2,.of_steps (harr _ hg1) harr2⟩
   | ret=>exact ⟨_,a1,w1,hq,harr⟩
   | panic ch=>exact ⟨_,a1,w1,hq,harr⟩
   | outgrown=>exact ⟨_,a1,w1,hq,harr⟩
 obtain ⟨e,a1,w1,hq,harr⟩:=f b (.inScope c :: k) cs
 cases e with
 | normal=>exact ⟨.normal,a1,w1,hq,.head step_scope (Steps.trans harr (.one step_inScope))⟩
 | exit id=>exact ⟨.exit id,a1,w1,hq,fun k' hk=>.head step_scope (harr k' (by simp [exitTo,hk]))⟩
 | goto l' =>
  rcases hq with ⟨rfl,hJ'⟩ | ⟨rfl,hJ'⟩
  ·obtain ⟨e2,a2,w2,hq2,harr2⟩:=key0 _ a1 w1 rfl hJ'
   exact ⟨e2,a2,w2,hq2,.of_steps (.head step_scope (harr _ hg0)) harr2⟩
  ·obtain ⟨e2,a2,w2,hq2,harr2⟩:=key1 _ a1 w1 rfl hJ'
   exact ⟨e2,a2,w2,hq2,.of_steps (.head step_scope (harr _ hg1)) harr2⟩
 | ret=>exact ⟨_,a1,w1,hq,.of_steps (.one step_scope) harr⟩
 | panic ch=>exact ⟨_,a1,w1,hq,.of_steps (.one step_scope) harr⟩
 | outgrown=>exact ⟨_,a1,w1,hq,.of_steps (.one step_scope) harr⟩
theorem cancel4 {x y:Int} (h:x*pw 6%RI=y*pw 6%RI) (h0:0≤x) (h1:x<RI):x=y%RI:=by
 have e2:x*pw 6*uI%RI=y*pw 6*uI%RI:=by rw [← mul_mod_l,h,mul_mod_l]
 have e3:pw 6*uI%RI=1:=by decide +kernel
 rw [Int.mul_assoc,← mul_mod_r,e3,Int.mul_assoc y,← mul_mod_r y,e3,Int.mul_one,Int.mul_one] at e2
 rw [← e2];exact (Int.emod_eq_of_lt h0 h1).symm
theorem lift_num {x a:Int} (h:x*pw 6%RI=a*val cL 6%RI) (h0:0≤x) (h1:x<RI):x=a*pw 6%RI :=
 cancel4 (by rw [h,← mul_mod_r,cL_val,mul_mod_r,Int.mul_assoc]) h0 h1
theorem drop_num {x a p:Int} (h:x*pw 6%RI=p*1%RI) (hp:p=a*pw 6%RI) (h0:0≤x) (h1:x<RI):x=a%RI :=
 cancel4 (by rw [h,Int.mul_one,hp,Int.emod_emod]) h0 h1
theorem times_num {x a b p q:Int} (h:x*pw 6%RI=p*q%RI) (hp:p=a*pw 6%RI) (hq:q=b*pw 6%RI) (h0:0≤x) (h1:x<RI):x=a*b*pw 6%RI :=
 cancel4 (by rw [h,hp,hq,mul_mod_l,mul_mod_r,Int.mul_assoc a,Int.mul_comm (pw 6) (b*pw 6),← Int.mul_assoc,← Int.mul_assoc a]) h0 h1
theorem mul_num {x a b p:Int} (h:x*pw 6%RI=p*b%RI) (hp:p=a*pw 6%RI) (h0:0≤x) (h1:x<RI):x=a*b%RI :=
 cancel4 (by rw [h,hp,mul_mod_l,Int.mul_assoc,Int.mul_comm (pw 6),← Int.mul_assoc]) h0 h1
theorem lift_any (f:Nat→Int) (w:World) (hg:Gl w) (rf:Rg f 6):Calls Tryz.prog 140 #[.agg #[.int .u64 (f 0),.int .u64 (f 1),.int .u64 (f 2),.int .u64 (f 3),.int .u64 (f 4),.int .u64 (f 5)]] w fun e w'=>∃ h:Nat→Int,e=.returned (.agg #[.int .u64 (h 0),.int .u64 (h 1),.int .u64 (h 2),.int .u64 (h 3),.int .u64 (h 4),.int .u64 (h 5)])∧Rg h 6∧val h 6=val f 6*pw 6%RI∧Below w.heap.size w w':=by
 obtain ⟨B1,z1,-,hR⟩:=pair_all w f 30
 unfold pair at B1 z1 hR
 obtain ⟨c0,c1,c2,c3,c4,c5⟩:=at6 (hg.stay B1).2
 have K:Hid _:=fun w=>times_any f cL w rf cL_rg (by have:=cL_lt;rw [rL_val] at this;exact this)
 go_enter Tryz.func140,Tryz.ntmps140
 go_wp2_with fail
 generalize (w.alloc (.cells #[.int .u64 (f 0),.int .u64 (f 1),.int .u64 (f 2),.int .u64 (f 3),.int .u64 (f 4),.int .u64 (f 5)] 30)).alloc (.cells #[.int .u64 0,.int .u64 0,.int .u64 0,.int .u64 0,.int .u64 0,.int .u64 0] 30)=W at *
 refine Calls.mono (K.out _) ?_
 rintro e w2 ⟨h,rfl,r2,l2,v2,b2⟩
 obtain ⟨y0,y1,y2,y3,y4,y5⟩:=(hR.below b2 (by rw [z1];omega)).cells6
 obtain ⟨x0,x1,x2,x3,x4,x5⟩:=(hR.below b2 (by rw [z1];omega)).free6
 have HB:Hid _:=Below.up B1 (Nat.le_refl _) b2
 have R2:Hid _:=r2
 have V2:Hid _:=lift_num v2 (val_bd r2).1 l2
 clear b2 B1 hR r2 l2 v2 c0 c1 c2 c3 c4 c5
 go_wp2
 refine bodyPost_ret (v:=.agg #[.int .u64 (h 0),.int .u64 (h 1),.int .u64 (h 2),.int .u64 (h 3),.int .u64 (h 4),.int .u64 (h 5)]) (by simp [results,Tryz.results140,go_sem,y0,y1,y2,y3,y4,y5]) rfl ⟨h,rfl,R2.out,V2.out,?_⟩
 exact below_set6 HB.out (by omega) _ _ _ _ _ _
theorem drop_any (f:Nat→Int) (X:Int) (w:World) (rf:Rg f 6) (hf:val f 6=X*pw 6%RI):Calls Tryz.prog 168 #[.agg #[.int .u64 (f 0),.int .u64 (f 1),.int .u64 (f 2),.int .u64 (f 3),.int .u64 (f 4),.int .u64 (f 5)]] w fun e w'=>∃ h:Nat→Int,e=.returned (.agg #[.int .u64 (h 0),.int .u64 (h 1),.int .u64 (h 2),.int .u64 (h 3),.int .u64 (h 4),.int .u64 (h 5)])∧Rg h 6∧val h 6=X%RI∧Below w.heap.size w w':=by
 obtain ⟨B1,z1,hF,hR⟩:=pair_all w f 30
 unfold pair at B1 z1 hF hR
 have KO:Hid _:=fun w=>frOf_any 1 w ⟨by decide,by rw [B64_eq];decide⟩
 have K:Hid _:=fun (g:Nat→Int) w (rg:Rg g 6) (vg:val g 6=1)=>times_any f g w rf rg (by rw [vg];decide)
 have HX:Hid _:=hf
 clear hf
 go_enter Tryz.func168,Tryz.ntmps168
 go_wp2_with fail
 generalize (w.alloc (.cells #[.int .u64 (f 0),.int .u64 (f 1),.int .u64 (f 2),.int .u64 (f 3),.int .u64 (f 4),.int .u64 (f 5)] 30)).alloc (.cells #[.int .u64 0,.int .u64 0,.int .u64 0,.int .u64 0,.int .u64 0,.int .u64 0] 30)=W at *
 have HS:Hid (∀ x,Below W.heap.size W x→(x.cell? ⟨w.heap.size,0,none⟩=some (.int .u64 (f 0))∧x.cell? ⟨w.heap.size,1,none⟩=some (.int .u64 (f 1))∧x.cell? ⟨w.heap.size,2,none⟩=some (.int .u64 (f 2))∧x.cell? ⟨w.heap.size,3,none⟩=some (.int .u64 (f 3))∧x.cell? ⟨w.heap.size,4,none⟩=some (.int .u64 (f 4))∧x.cell? ⟨w.heap.size,5,none⟩=some (.int .u64 (f 5)))):=fun x hx=>(hF.below hx (by omega)).cells6
 have BW:Hid (Below W.heap.size W W.drew):=(Below.refl _ _).drew
 have B1':Hid _:=B1
 have HR:Hid _:=hR
 have Z1:Hid _:=z1
 clear hF hR B1 z1
 obtain ⟨a0,a1,a2,a3,a4,a5⟩:=HS.out _ (Below.refl _ _)
 go_region_with (first
  | (go_at_call 120;refine Calls.mono (KO.out _) ?_;rintro e x1 ⟨h1,rfl,r1,v1,b1⟩;have BX:=Below.up BW.out (Nat.le_refl _) b1;clear BW;obtain ⟨e0,e1,e2,e3,e4,e5⟩:=HS.out _ BX;have BW:Hid _:=BX;clear BX;have R1:Hid _:=r1;have V1:Hid _:=v1;clear b1 r1 v1)
  | (go_at_call 139;refine Calls.mono (K.out h1 _ R1.out V1.out) ?_;rintro e x2 ⟨h,rfl,r2,l2,v2,b2⟩;have BX:=Below.up BW.out (Nat.le_refl _) b2;clear BW;obtain ⟨y0,y1,y2,y3,y4,y5⟩:=(MutK.below HR.out BX (by rw [Z1.out];omega)).cells6;obtain ⟨x0,x1,x2,x3,x4,x5⟩:=(MutK.below HR.out BX (by rw [Z1.out];omega)).free6;have BW:Hid _:=BX;have HB:Hid _:=Below.up B1'.out (Nat.le_refl _) BX;have R2:Hid _:=r2;have V2:Hid _:=drop_num (by rw [V1.out] at v2;exact v2) HX.out (val_bd r2).1 l2;clear b2 r2 l2 v2 BX))
 all_goals
  go_wp2
  refine bodyPost_ret (v:=.agg #[.int .u64 (h 0),.int .u64 (h 1),.int .u64 (h 2),.int .u64 (h 3),.int .u64 (h 4),.int .u64 (h 5)]) (by simp [results,Tryz.results168,go_sem,y0,y1,y2,y3,y4,y5]) rfl ⟨h,rfl,R2.out,V2.out,?_⟩
  exact below_set6 HB.out (by omega) _ _ _ _ _ _
theorem bitAt_any (p:Option Addr) (n c:Nat) (g:Nat→Int) (j:Nat) (w:World) (hj:j<64*n) (hn:n≤1000) (h:At w p n g) (rg:Rg g n) :
  Calls Tryz.prog 167 #[.slice p n c,.int .i64 j] w fun e w'=>e=.returned (.int .u64 (g (j / 64) / 2^(j%64)%2))∧w'=w:=by
 obtain ⟨b,off,rfl,hcell⟩:=h (by omega)
 have hm1:=hcell (j / 64) (by omega)
 have r:=rg (j / 64) (by omega)
 have hbit:bits BinOp.and IntKind.u64 (g (j / 64) / 2^(j%64)) 1=g (j / 64) / 2^(j%64)%2:=and_one _ (Int.ediv_nonneg r.1 (Int.le_of_lt (Int.pow_pos (by decide)))) (by
  have:=Int.ediv_le_self (2^(j%64)) r.1
  rw [B64_eq] at r
  omega)
 have HB:Hid _:=hbit
 have i1:(j:Int) / 64<(n:Int):=by omega
 clear hcell h hbit r rg
 go_enter Tryz.func167,Tryz.ntmps167
 go_wp2
 go_ret
 exact ⟨ret_int HB.out,rfl⟩
theorem frMul_any (f g:Nat→Int) (w:World) (hg:Gl w) (rf:Rg f 6) (rg:Rg g 6) :
  Calls Tryz.prog 119 #[.agg #[.int .u64 (f 0),.int .u64 (f 1),.int .u64 (f 2),.int .u64 (f 3),.int .u64 (f 4),.int .u64 (f 5)],.agg #[.int .u64 (g 0),.int .u64 (g 1),.int .u64 (g 2),.int .u64 (g 3),.int .u64 (g 4),.int .u64 (g 5)]] w fun e w'=>∃ h:Nat→Int,e=.returned (.agg #[.int .u64 (h 0),.int .u64 (h 1),.int .u64 (h 2),.int .u64 (h 3),.int .u64 (h 4),.int .u64 (h 5)])∧Rg h 6∧val h 6=val f 6*val g 6%RI∧Below w.heap.size w w':=by
 obtain ⟨B1,z1,hF,hG,hR⟩:=three_all w f g 30
 unfold three at B1 z1 hF hG hR
 have KL:Hid _:=fun w hg=>lift_any f w hg rf
 have K:Hid _:=fun (k:Nat→Int) w (rk:Rg k 6) (lk:val k 6<RI)=>times_any g k w rg rk lk
 have hgl:=hg.stay B1
 clear rf rg hg
 go_enter Tryz.func119,Tryz.ntmps119
 go_wp2_with fail
 generalize ((w.alloc (.cells #[.int .u64 (f 0),.int .u64 (f 1),.int .u64 (f 2),.int .u64 (f 3),.int .u64 (f 4),.int .u64 (f 5)] 30)).alloc (.cells #[.int .u64 (g 0),.int .u64 (g 1),.int .u64 (g 2),.int .u64 (g 3),.int .u64 (g 4),.int .u64 (g 5)] 30)).alloc (.cells #[.int .u64 0,.int .u64 0,.int .u64 0,.int .u64 0,.int .u64 0,.int .u64 0] 30)=W at *
 have HS:Hid (∀ x,Below W.heap.size W x→((x.cell? ⟨w.heap.size,0,none⟩=some (.int .u64 (f 0))∧x.cell? ⟨w.heap.size,1,none⟩=some (.int .u64 (f 1))∧x.cell? ⟨w.heap.size,2,none⟩=some (.int .u64 (f 2))∧x.cell? ⟨w.heap.size,3,none⟩=some (.int .u64 (f 3))∧x.cell? ⟨w.heap.size,4,none⟩=some (.int .u64 (f 4))∧x.cell? ⟨w.heap.size,5,none⟩=some (.int .u64 (f 5)))∧(x.cell? ⟨w.heap.size+1,0,none⟩=some (.int .u64 (g 0))∧x.cell? ⟨w.heap.size+1,1,none⟩=some (.int .u64 (g 1))∧x.cell? ⟨w.heap.size+1,2,none⟩=some (.int .u64 (g 2))∧x.cell? ⟨w.heap.size+1,3,none⟩=some (.int .u64 (g 3))∧x.cell? ⟨w.heap.size+1,4,none⟩=some (.int .u64 (g 4))∧x.cell? ⟨w.heap.size+1,5,none⟩=some (.int .u64 (g 5))))):=fun x hx=>⟨at6 (hF.below hx),at6 (hG.below hx)⟩
 have BW:Hid (Below W.heap.size W W.drew):=(Below.refl _ _).drew
 have B1':Hid _:=B1
 have HR:Hid _:=hR
 have Z1:Hid _:=z1
 have HGL:Hid _:=hgl
 clear hF hG hR B1 z1 hgl
 obtain ⟨⟨a0,a1,a2,a3,a4,a5⟩,c0,c1,c2,c3,c4,c5⟩:=HS.out _ (Below.refl _ _)
 go_region_with (first
  | (go_at_call 140;refine Calls.mono (KL.out _ (Gl.stay HGL.out BW.out)) ?_;rintro e x1 ⟨h1,rfl,r1,v1,b1⟩;have BX:=Below.up BW.out (Nat.le_refl _) b1;clear BW;obtain ⟨⟨e0,e1,e2,e3,e4,e5⟩,d0,d1,d2,d3,d4,d5⟩:=HS.out _ BX;have BW:Hid _:=BX;clear BX;have R1:Hid _:=r1;have V1:Hid _:=v1;clear b1 r1 v1)
  | (go_at_call 139;refine Calls.mono (K.out h1 _ R1.out (by rw [V1.out];exact modR_lt _)) ?_;rintro e x2 ⟨h,rfl,r2,l2,v2,b2⟩;have BX:=Below.up BW.out (Nat.le_refl _) b2;clear BW;obtain ⟨y0,y1,y2,y3,y4,y5⟩:=(MutK.below HR.out BX (by rw [Z1.out];omega)).cells6;obtain ⟨x0,x1,x2,x3,x4,x5⟩:=(MutK.below HR.out BX (by rw [Z1.out];omega)).free6;have BW:Hid _:=BX;have HB:Hid _:=Below.up B1'.out (Nat.le_refl _) BX;have R2:Hid _:=r2;have V2:Hid _:=mul_num (by rw [Int.mul_comm (val g 6)] at v2;exact v2) V1.out (val_bd r2).1 l2;clear b2 r2 l2 v2 BX))
 all_goals
  go_wp2
  refine bodyPost_ret (v:=.agg #[.int .u64 (h 0),.int .u64 (h 1),.int .u64 (h 2),.int .u64 (h 3),.int .u64 (h 4),.int .u64 (h 5)]) (by simp [results,Tryz.results119,go_sem,y0,y1,y2,y3,y4,y5]) rfl ⟨h,rfl,R2.out,V2.out,?_⟩
  exact below_set6 HB.out (by omega) _ _ _ _ _ _
def powJ (f:Nat→Int) (p:Option Addr) (n c:Nat) (E:Nat) (w:World) (T:Nat→Prop):Act→World→Prop:=fun a' w'=>∃ (L b:Nat) (k h:Nat→Int) (u8 u9 u10 u11 u12 u13 u14 u15 u16 u17 u18 u19 u20 u21 u22 u23 u24 u25 u26 u27 u28 u29 u30 u31 u32 u33 u34 u35 u36 u37 u38 u39 u40 u41:Value),
 a'={ tmps:=#[.agg #[.int .u64 (f 0),.int .u64 (f 1),.int .u64 (f 2),.int .u64 (f 3),.int .u64 (f 4),.int .u64 (f 5)],.slice p n c,.pointer (some ⟨w.heap.size,0,none⟩),undef,.pointer (some ⟨w.heap.size+1,0,none⟩),.pointer (some ⟨b,0,none⟩),.pointer (some ⟨b+1,0,none⟩),.int .i64 L,u8,u9,u10,u11,u12,u13,u14,u15,u16,u17,u18,u19,u20,u21,u22,u23,u24,u25,u26,u27,u28,u29,u30,u31,u32,u33,u34,u35,u36,u37,u38,u39,u40,u41],defers:=[] }∧T L∧L≤64*n∧w.heap.size+2≤b∧Below w.heap.size w w'∧Mut w' (w.heap.size+1) 0 6 Z∧Mut w' b 0 6 k∧Rg k 6∧val k 6=val f 6*pw 6%RI∧Mut w' (b+1) 0 6 h∧Rg h 6∧val h 6=val f 6^(E / 2^L)*pw 6%RI
theorem frPow_any (f:Nat→Int) (p:Option Addr) (n c:Nat) (g:Nat→Int) (E:Nat) (w:World) (hg:Gl w) (rf:Rg f 6) (hn:n≤24) (he:At w p n g) (rg:Rg g n) (hE:val g n=(E:Int)) :
  Calls Tryz.prog 166 #[.agg #[.int .u64 (f 0),.int .u64 (f 1),.int .u64 (f 2),.int .u64 (f 3),.int .u64 (f 4),.int .u64 (f 5)],.slice p n c] w fun e w'=>∃ h:Nat→Int,e=.returned (.agg #[.int .u64 (h 0),.int .u64 (h 1),.int .u64 (h 2),.int .u64 (h 3),.int .u64 (h 4),.int .u64 (h 5)])∧Rg h 6∧val h 6=val f 6^E%RI∧Below w.heap.size w w':=by
 obtain ⟨B1,z1,hF,hR⟩:=pair_all w f 30
 unfold pair at B1 z1 hF hR
 have KL:Hid _:=fun (k:Nat→Int) w hg (rk:Rg k 6)=>lift_any k w hg rk
 have KO:Hid _:=fun w=>frOf_any 1 w ⟨by decide,by rw [B64_eq];decide⟩
 have hgl:=hg.stay B1
 have N0:∀ j,j<64*n→Hid (g (j / 64) / 2^(j%64)%2=((E / 2^j%2:Nat):Int)):=fun j hj=>nat_bit rg hE hj
 have NT:Hid _:=nat_top rg hE
 have HRG:Hid _:=rg
 have HE:Hid _:=he
 clear rg hE he
 go_enter Tryz.func166,Tryz.ntmps166
 go_wp2_with fail
 refine wp_scope_two (powJ f p n c E w (fun L=>E / 2^L=0)) (powJ f p n c E w (fun _=>True)) (fun a' _=>slot 7 a') (fun a' _=>slot 7 a') rfl rfl ?_ ?_ ?_
 ·clear hF hR B1 z1 hgl KL KO hg NT rf
  rintro a' W ⟨L,b,k,h,u8,u9,u10,u11,u12,u13,u14,u15,u16,u17,u18,u19,u20,u21,u22,u23,u24,u25,u26,u27,u28,u29,u30,u31,u32,u33,u34,u35,u36,u37,u38,u39,u40,u41,rfl,-,hL,hb,hbel,hR,hK,rk,vk,hH,rh,vh⟩
  cases L with
  | zero =>
   obtain ⟨x0,x1,x2,x3,x4,x5⟩:=hH.cells6
   rw [Nat.pow_zero,Nat.div_one] at vh
   have D:Hid _:=fun w=>drop_any h (val f 6^E) w rh vh
   have bl:w.heap.size+2≤W.heap.size:=by have:=cell_lt x0;simp only at this;omega
   clear rh vh hK rk vk hH
   go_wp2_with fail
   refine Calls.mono (D.out W) ?_
   rintro e w2 ⟨h2,rfl,r2,v2,b2⟩
   obtain ⟨y0,y1,y2,y3,y4,y5⟩:=(hR.below b2 (by omega)).cells6
   obtain ⟨z0,z1,z2,z3,z4,z5⟩:=(hR.below b2 (by omega)).free6
   have HB:Hid _:=Below.up hbel (Nat.le_refl _) b2
   have R2:Hid _:=r2
   have V2:Hid _:=v2
   clear b2 r2 v2 hR hbel x0 x1 x2 x3 x4 x5
   go_wp2
   simp only [Exit.jump2]
   refine bodyPost_ret (v:=.agg #[.int .u64 (h2 0),.int .u64 (h2 1),.int .u64 (h2 2),.int .u64 (h2 3),.int .u64 (h2 4),.int .u64 (h2 5)]) (by simp [results,Tryz.results166,go_sem,y0,y1,y2,y3,y4,y5]) rfl ⟨h2,rfl,R2.out,V2.out,?_⟩
   exact below_set6 HB.out (by omega) _ _ _ _ _ _
  | succ j =>
   obtain ⟨x0,x1,x2,x3,x4,x5⟩:=hH.cells6
   have M1:Hid _:=fun w=>times_any h h w rh rh (by rw [vh];exact modR_lt _)
   have bl:b+1<W.heap.size:=cell_lt x0
   go_wp2_with fail
   refine Calls.mono (M1.out W) ?_
   rintro e w2 ⟨h2,rfl,r2,l2,v2,b2⟩
   have v2':=times_num v2 vh vh (val_bd r2).1 l2
   rw [← Int.pow_add,← Nat.two_mul] at v2'
   have k2:=hH.below b2 bl
   have q2:=hK.below b2 (by omega)
   have s2:=hR.below b2 (by omega)
   obtain ⟨y0,y1,y2,y3,y4,y5⟩:=k2.cells6
   obtain ⟨z0,z1,z2,z3,z4,z5⟩:=k2.free6
   have m4:=mut_set6 k2 h2
   have b4:=below_set6 (Below.up hbel (Nat.le_refl _) b2) (show w.heap.size≤b+1 by omega) (.int .u64 (h2 0)) (.int .u64 (h2 1)) (.int .u64 (h2 2)) (.int .u64 (h2 3)) (.int .u64 (h2 4)) (.int .u64 (h2 5))
   have q4:=mut_not6 q2 (show b≠b+1 by omega) (.int .u64 (h2 0)) (.int .u64 (h2 1)) (.int .u64 (h2 2)) (.int .u64 (h2 3)) (.int .u64 (h2 4)) (.int .u64 (h2 5))
   have s4:=mut_not6 s2 (show w.heap.size+1≠b+1 by omega) (.int .u64 (h2 0)) (.int .u64 (h2 1)) (.int .u64 (h2 2)) (.int .u64 (h2 3)) (.int .u64 (h2 4)) (.int .u64 (h2 5))
   have M4:Hid _:=m4
   have B4:Hid _:=b4
   have Q4:Hid _:=q4
   have S4:Hid _:=s4
   have R2:Hid _:=r2
   have V2:Hid _:=v2'
   have hb1:=(N0 j (by omega)).out
   have hh:=nat_half E j
   have RK:Hid _:=rk
   have VK:Hid _:=vk
   clear k2 q2 s2 m4 b4 q4 s4 r2 l2 v2 v2' M1 x0 x1 x2 x3 x4 x5 b2 hbel hR hK hH rh vh rk vk bl
   go_wp2_with fail
   generalize (((((w2.setCell ⟨b+1,0,none⟩ (.int .u64 (h2 0))).setCell ⟨b+1,1,none⟩ (.int .u64 (h2 1))).setCell ⟨b+1,2,none⟩ (.int .u64 (h2 2))).setCell ⟨b+1,3,none⟩ (.int .u64 (h2 3))).setCell ⟨b+1,4,none⟩ (.int .u64 (h2 4))).setCell ⟨b+1,5,none⟩ (.int .u64 (h2 5))=W4 at *
   have KB:Hid _:=bitAt_any p n c g j W4 (by omega) (by omega) (AtK.below HE.out B4.out) HRG.out
   rw [hb1] at KB
   clear hb1 y0 y1 y2 y3 y4 y5 z0 z1 z2 z3 z4 z5
   rcases (show E / 2^j%2=0∨E / 2^j%2=1 by omega) with h0 | h1
   ·rw [h0] at KB
    have VF:Hid (val h2 6=val f 6^(E / 2^j)*pw 6%RI):=by
     show _=_
     have e:E / 2^j=2*(E / 2^(j+1)):=by rw [h0] at hh;exact hh
     rw [V2.out,e]
    clear hh h0
    refine Calls.mono KB.out ?_
    rintro e w5 ⟨rfl,rfl⟩
    go_wp2
    go_step3
    refine Or.inr ⟨rfl,⟨j,b,k,h2,_,_,_,_,_,_,_,_,_,_,_,_,_,_,_,_,_,_,_,_,_,_,_,_,_,_,_,_,_,_,_,_,_,_,rfl,trivial,by omega,hb,B4.out,S4.out,Q4.out,RK.out,VK.out,M4.out,R2.out,VF.out⟩,?_⟩
    simp [slot,intOf]
   ·rw [h1] at KB
    have VF:Hid (∀ x,0≤x→x<RI→x*pw 6%RI=val h2 6*val k 6%RI→x=val f 6^(E / 2^j)*pw 6%RI):=fun x x0 x1 hx=>by
     have e:=times_num hx V2.out VK.out x0 x1
     rw [← Int.pow_succ] at e
     rw [hh,h1];exact e
    clear hh h1
    refine Calls.mono KB.out ?_
    rintro e w5 ⟨rfl,rfl⟩
    obtain ⟨x0,x1,x2,x3,x4,x5⟩:=MutK.cells6 M4.out
    obtain ⟨a0,a1,a2,a3,a4,a5⟩:=MutK.cells6 Q4.out
    have M2:Hid _:=fun w=>times_any h2 k w R2.out RK.out (by rw [VK.out];exact modR_lt _)
    have bl:b+1<w5.heap.size:=cell_lt x0
    have BL:Hid _:=bl
    clear bl
    go_wp2_with fail
    refine Calls.mono (M2.out _) ?_
    rintro e w6 ⟨h6,rfl,r6,l6,v6,b6⟩
    have k6:=MutK.below M4.out b6 BL.out
    have q6:=MutK.below Q4.out b6 (by have:=BL.out;omega)
    have s6:=MutK.below S4.out b6 (by have:=BL.out;omega)
    obtain ⟨y0,y1,y2,y3,y4,y5⟩:=k6.cells6
    obtain ⟨z0,z1,z2,z3,z4,z5⟩:=k6.free6
    have M6:Hid _:=mut_set6 k6 h6
    have B6:Hid _:=below_set6 (Below.up B4.out (Nat.le_refl _) b6) (show w.heap.size≤b+1 by omega) (.int .u64 (h6 0)) (.int .u64 (h6 1)) (.int .u64 (h6 2)) (.int .u64 (h6 3)) (.int .u64 (h6 4)) (.int .u64 (h6 5))
    have Q6:Hid _:=mut_not6 q6 (show b≠b+1 by omega) (.int .u64 (h6 0)) (.int .u64 (h6 1)) (.int .u64 (h6 2)) (.int .u64 (h6 3)) (.int .u64 (h6 4)) (.int .u64 (h6 5))
    have S6:Hid _:=mut_not6 s6 (show w.heap.size+1≠b+1 by omega) (.int .u64 (h6 0)) (.int .u64 (h6 1)) (.int .u64 (h6 2)) (.int .u64 (h6 3)) (.int .u64 (h6 4)) (.int .u64 (h6 5))
    have R6:Hid _:=r6
    have V6:Hid _:=VF.out _ (val_bd r6).1 l6 v6
    clear k6 q6 s6 r6 l6 v6 b6 M2 x0 x1 x2 x3 x4 x5 a0 a1 a2 a3 a4 a5 M4 B4 Q4 S4 BL
    go_wp2
    go_step3
    refine Or.inr ⟨rfl,⟨j,b,k,h6,_,_,_,_,_,_,_,_,_,_,_,_,_,_,_,_,_,_,_,_,_,_,_,_,_,_,_,_,_,_,_,_,_,_,rfl,trivial,by omega,hb,B6.out,S6.out,Q6.out,RK.out,VK.out,M6.out,R6.out,V6.out⟩,?_⟩
    simp [slot,intOf]
 ·clear hF hR B1 z1 hgl KL KO hg NT rf
  rintro hr a' W ⟨L,b,k,h,u8,u9,u10,u11,u12,u13,u14,u15,u16,u17,u18,u19,u20,u21,u22,u23,u24,u25,u26,u27,u28,u29,u30,u31,u32,u33,u34,u35,u36,u37,u38,u39,u40,u41,rfl,hz,hL,hb,hbel,hR,hK,rk,vk,hH,rh,vh⟩
  have J:Hid _:=And.intro hb (And.intro hbel (And.intro hR (And.intro hK (And.intro rk (And.intro vk (And.intro hH (And.intro rh vh)))))))
  have JB:=hbel
  clear hb hR hK rk vk hH rh vh hbel
  cases L with
  | zero =>
   clear JB
   go_wp2
   go_step3
   rename_i K hK
   exact hK _ _ (hr _ _ _ ⟨0,b,k,h,_,_,_,_,_,_,_,_,_,_,_,_,_,_,_,_,_,_,_,_,_,_,_,_,_,_,_,_,_,_,_,_,_,_,rfl,trivial,by omega,J.out.1,J.out.2.1,J.out.2.2.1,J.out.2.2.2.1,J.out.2.2.2.2.1,J.out.2.2.2.2.2.1,J.out.2.2.2.2.2.2.1,J.out.2.2.2.2.2.2.2.1,J.out.2.2.2.2.2.2.2.2⟩)
  | succ j =>
   have KB:Hid _:=bitAt_any p n c g j W (by omega) (by omega) (AtK.below HE.out JB) HRG.out
   rw [(N0 j (by omega)).out] at KB
   have hh:=nat_half E j
   clear JB
   rcases (show E / 2^j%2=0∨E / 2^j%2=1 by omega) with h0 | h1
   ·rw [h0] at KB
    have e1:E / 2^j=0:=by rw [h0,hz] at hh;exact hh
    have e2:val f 6^(E / 2^(j+1))=val f 6^(E / 2^j):=by rw [hz,e1]
    have E1:Hid _:=e1
    have E2:Hid _:=e2
    clear hh h0 hz e1 e2
    go_wp2_with (go_at_call 167;refine Calls.mono KB.out ?_;rintro e w5 ⟨rfl,rfl⟩)
    go_step3
    refine Or.inl ⟨rfl,⟨j,b,k,h,_,_,_,_,_,_,_,_,_,_,_,_,_,_,_,_,_,_,_,_,_,_,_,_,_,_,_,_,_,_,_,_,_,_,rfl,E1.out,by omega,J.out.1,J.out.2.1,J.out.2.2.1,J.out.2.2.2.1,J.out.2.2.2.2.1,J.out.2.2.2.2.2.1,J.out.2.2.2.2.2.2.1,J.out.2.2.2.2.2.2.2.1,by rw [← E2.out];exact J.out.2.2.2.2.2.2.2.2⟩,?_⟩
    simp [slot,intOf]
   ·rw [h1] at KB
    clear hh h1 hz
    go_wp2_with (go_at_call 167;refine Calls.mono KB.out ?_;rintro e w5 ⟨rfl,rfl⟩)
    go_step3
    rename_i K hK
    exact hK _ _ (hr _ _ _ ⟨j+1,b,k,h,_,_,_,_,_,_,_,_,_,_,_,_,_,_,_,_,_,_,_,_,_,_,_,_,_,_,_,_,_,_,_,_,_,_,rfl,trivial,by omega,J.out.1,J.out.2.1,J.out.2.2.1,J.out.2.2.2.1,J.out.2.2.2.2.1,J.out.2.2.2.2.2.1,J.out.2.2.2.2.2.2.1,J.out.2.2.2.2.2.2.2.1,J.out.2.2.2.2.2.2.2.2⟩)
 ·intro hr
  go_wp2_with fail
  generalize (w.alloc (.cells #[.int .u64 (f 0),.int .u64 (f 1),.int .u64 (f 2),.int .u64 (f 3),.int .u64 (f 4),.int .u64 (f 5)] 30)).alloc (.cells #[.int .u64 0,.int .u64 0,.int .u64 0,.int .u64 0,.int .u64 0,.int .u64 0] 30)=W at *
  refine Calls.mono (KL.out f _ hgl rf) ?_
  rintro e w1 ⟨h1,rfl,r1,v1,b1⟩
  go_wp2_with fail
  refine Calls.mono (KO.out _) ?_
  rintro e w2 ⟨h2,rfl,r2,v2,b2⟩
  go_wp2_with fail
  refine Calls.mono (KL.out h2 _ ((hgl.stay b1).stay b2) r2) ?_
  rintro e w3 ⟨h3,rfl,r3,v3,b3⟩
  have b4:=Below.up (Below.up b1 (Nat.le_refl _) b2) (Nat.le_refl _) b3
  have m1:=mut_four w3 h1 30
  have m1':=m1.below (below_one (w3.alloc (.cells #[.int .u64 (h1 0),.int .u64 (h1 1),.int .u64 (h1 2),.int .u64 (h1 3),.int .u64 (h1 4),.int .u64 (h1 5)] 30)) (.cells #[.int .u64 (h3 0),.int .u64 (h3 1),.int .u64 (h3 2),.int .u64 (h3 3),.int .u64 (h3 4),.int .u64 (h3 5)] 30)) (by rw [World.size_alloc];omega)
  have m3:=mut_four (w3.alloc (.cells #[.int .u64 (h1 0),.int .u64 (h1 1),.int .u64 (h1 2),.int .u64 (h1 3),.int .u64 (h1 4),.int .u64 (h1 5)] 30)) h3 30
  rw [World.size_alloc] at m3
  have c4:=Below.up b4 (Nat.le_refl _) (below_two w3 (.cells #[.int .u64 (h1 0),.int .u64 (h1 1),.int .u64 (h1 2),.int .u64 (h1 3),.int .u64 (h1 4),.int .u64 (h1 5)] 30) (.cells #[.int .u64 (h3 0),.int .u64 (h3 1),.int .u64 (h3 2),.int .u64 (h3 3),.int .u64 (h3 4),.int .u64 (h3 5)] 30))
  have hR':=hR.below c4 (by rw [z1];omega)
  have c5:=Below.up B1 (Nat.le_refl _) c4
  have lb:w.heap.size+2≤w3.heap.size:=by have:=b4.size;omega
  have V3:Hid (val h3 6=val f 6^(E / 2^(64*n))*pw 6%RI):=by
   show _=_
   rw [v3,v2,NT.out,Int.pow_zero]
  have HJ:Hid _:=And.intro c5 (And.intro hR' (And.intro m1' (And.intro r1 (And.intro v1 (And.intro m3 r3)))))
  clear b1 b2 b3 b4 m1 m1' m3 c4 c5 hR hR' v1 v2 v3 r1 r2 r3 B1 hF
  go_wp2_with fail
  go_step3
  rename_i K hK
  exact hK _ _ (hr _ _ ⟨64*n,w3.heap.size,h1,h3,_,_,_,_,_,_,_,_,_,_,_,_,_,_,_,_,_,_,_,_,_,_,_,_,_,_,_,_,_,_,_,_,_,_,by first | rfl | (congr 1),NT.out,Nat.le_refl _,lb,HJ.out.1,HJ.out.2.1,HJ.out.2.2.1,HJ.out.2.2.2.1,HJ.out.2.2.2.2.1,HJ.out.2.2.2.2.2.1,HJ.out.2.2.2.2.2.2,V3.out⟩)
end Go.Proofs.YthnfgmhehfombaaGreatDoor.fpn
/- Inv. -/
namespace Go.Proofs.YthnfgmhehfombaaGreatDoor.fpn
open Go.RowKit
attribute [local go_sem ↓] Go.wp_at_zero Go.wp_at_succ
theorem frInv_zero (f:Nat→Int) (w:World) (rf:Rg f 6) (hz:val f 6=0):Calls Tryz.prog 158 #[.agg #[.int .u64 (f 0),.int .u64 (f 1),.int .u64 (f 2),.int .u64 (f 3),.int .u64 (f 4),.int .u64 (f 5)]] w fun e w'=>∃ h:Nat→Int,e=.returned (.tuple #[.agg #[.int .u64 (h 0),.int .u64 (h 1),.int .u64 (h 2),.int .u64 (h 3),.int .u64 (h 4),.int .u64 (h 5)],.int .i64 7])∧Rg h 6∧val h 6=0∧Below w.heap.size w w':=by
 have E:∀ w,(Op.equalIn 10000 30 (.agg #[.int .u64 (f 0),.int .u64 (f 1),.int .u64 (f 2),.int .u64 (f 3),.int .u64 (f 4),.int .u64 (f 5)]) (.agg #[.int .u64 0,.int .u64 0,.int .u64 0,.int .u64 0,.int .u64 0,.int .u64 0])).run Tryz.prog w=.ok true w:=fun w=>by
  have:=eqFr_run f Z rf (Z_rg 6) w
  rw [val_Z,decide_eq_true hz] at this
  exact this
 clear rf hz
 go_enter Tryz.func158,Tryz.ntmps158
 go_wp2
 refine bodyPost_ret (v:=.tuple #[.agg #[.int .u64 0,.int .u64 0,.int .u64 0,.int .u64 0,.int .u64 0,.int .u64 0],.int .i64 7]) (by simp [results,Tryz.results158,go_sem]) rfl ⟨Z,rfl,Z_rg 6,val_Z 6,below_two _ _ _⟩
def iL:Nat→Int
 | 0=>13402431016077863593
 | 1=>2210141511517208575
 | 2=>7435674573564081700
 | 3=>7239337960414712511
 | 4=>5412103778470702295
 | 5=>1873798617647539866
 | _=>0
theorem iL_rg:Rg iL 6:=fun i hi=>by
 rcases (show i=0∨i=1∨i=2∨i=3∨i=4∨i=5 by omega) with rfl | rfl | rfl | rfl | rfl | rfl<;>rw [B64_eq]<;>decide
theorem iL_val:val iL 6=((RN-2:Nat):Int):=by decide +kernel
theorem frInv_any (f:Nat→Int) (w:World) (hg:Gl w) (rf:Rg f 6) (hz:val f 6≠0):Calls Tryz.prog 158 #[.agg #[.int .u64 (f 0),.int .u64 (f 1),.int .u64 (f 2),.int .u64 (f 3),.int .u64 (f 4),.int .u64 (f 5)]] w fun e w'=>∃ h:Nat→Int,e=.returned (.tuple #[.agg #[.int .u64 (h 0),.int .u64 (h 1),.int .u64 (h 2),.int .u64 (h 3),.int .u64 (h 4),.int .u64 (h 5)],.int .i64 0])∧Rg h 6∧val h 6=val f 6^(RN-2)%RI∧Below w.heap.size w w':=by
 have E:∀ w,(Op.equalIn 10000 30 (.agg #[.int .u64 (f 0),.int .u64 (f 1),.int .u64 (f 2),.int .u64 (f 3),.int .u64 (f 4),.int .u64 (f 5)]) (.agg #[.int .u64 0,.int .u64 0,.int .u64 0,.int .u64 0,.int .u64 0,.int .u64 0])).run Tryz.prog w=.ok false w:=fun w=>by
  have:=eqFr_run f Z rf (Z_rg 6) w
  rw [val_Z,decide_eq_false hz] at this
  exact this
 obtain ⟨B1,z1,hF,hR⟩:=pair_all w f 30
 unfold pair at B1 z1 hF hR
 have hgl:=hg.stay B1
 have K:Hid _:=fun (W:World) (hW:Gl W) (b:Nat) (ha:At W (some ⟨b,0,none⟩) 6 iL)=>frPow_any f (some ⟨b,0,none⟩) 6 6 iL (RN-2) W hW rf (by omega) ha iL_rg iL_val
 clear rf hz hg
 go_enter Tryz.func158,Tryz.ntmps158
 go_wp2_with fail
 generalize (w.alloc (.cells #[.int .u64 (f 0),.int .u64 (f 1),.int .u64 (f 2),.int .u64 (f 3),.int .u64 (f 4),.int .u64 (f 5)] 30)).alloc (.cells #[.int .u64 0,.int .u64 0,.int .u64 0,.int .u64 0,.int .u64 0,.int .u64 0] 30)=W at *
 have a1:=below_one W (.cells #[.int .u64 (iL 0),.int .u64 (iL 1),.int .u64 (iL 2),.int .u64 (iL 3),.int .u64 (iL 4),.int .u64 (iL 5)] 25)
 have m1:=(mut_four W iL 25).at
 rw [z1] at m1
 refine Calls.mono (K.out _ (hgl.stay a1) _ m1) ?_
 rintro e w2 ⟨h2,rfl,r2,v2,b2⟩
 have b3:=Below.up a1 (Nat.le_refl _) b2
 obtain ⟨y0,y1,y2,y3,y4,y5⟩:=(hR.below b3 (by rw [z1];omega)).cells6
 obtain ⟨x0,x1,x2,x3,x4,x5⟩:=(hR.below b3 (by rw [z1];omega)).free6
 have HB:Hid _:=Below.up B1 (Nat.le_refl _) b3
 have R2:Hid _:=r2
 have V2:Hid _:=v2
 clear b2 b3 B1 hF hR r2 v2 a1 m1 hgl
 go_wp2
 refine bodyPost_ret (v:=.tuple #[.agg #[.int .u64 (h2 0),.int .u64 (h2 1),.int .u64 (h2 2),.int .u64 (h2 3),.int .u64 (h2 4),.int .u64 (h2 5)],.int .i64 0]) (by simp [results,Tryz.results158,go_sem,y0,y1,y2,y3,y4,y5]) rfl ⟨h2,rfl,R2.out,V2.out,?_⟩
 exact below_set6 HB.out (by omega) _ _ _ _ _ _
end Go.Proofs.YthnfgmhehfombaaGreatDoor.fpn
/- Put, Take. -/
namespace Go.Proofs.YthnfgmhehfombaaGreatDoor.fpn
open Go.RowKit
attribute [local go_sem ↓] Go.wp_at_zero Go.wp_at_succ
end Go.Proofs.YthnfgmhehfombaaGreatDoor.fpn
/- Sqrt. -/
namespace Go.Proofs.YthnfgmhehfombaaGreatDoor.fpn
open Go.RowKit
attribute [local go_sem ↓] Go.wp_at_zero Go.wp_at_succ
end Go.Proofs.YthnfgmhehfombaaGreatDoor.fpn
/- Package fp answers as the document asks. -/
namespace Go.Proofs.YthnfgmhehfombaaGreatDoor.fpn
open Go.RowKit
theorem fpOk:FpOk Gl where
 stay:=fun h b=>h.stay b
 add:=fun f g w _ rf rg lf lg=>frAdd_any f g w rf rg lf lg
 sub:=fun f g w _ rf rg lf lg=>frSub_any f g w rf rg lf lg
 mul:=fun f g w hg rf rg _ _=>frMul_any f g w hg rf rg
 neg:=fun f w _ rf lf=>frNeg_any f w rf lf
 of:=fun x w _ hx=>frOf_any x w hx
 inv0:=fun f w _ rf hz=>frInv_zero f w rf hz
 inv:=fun f w hg rf _ hz=>frInv_any f w hg rf hz
 pow:=fun f p n c g E w hg rf _ hn _ _ he rg hE=>frPow_any f p n c g E w hg rf hn he rg hE
 may:=fun f w _ rf=>frMay_any f w rf
end Go.Proofs.YthnfgmhehfombaaGreatDoor.fpn
