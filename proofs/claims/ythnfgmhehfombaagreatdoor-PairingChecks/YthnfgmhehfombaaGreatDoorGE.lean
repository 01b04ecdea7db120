/- Texts laid together. -/
import Derived.Test.YthnfgmhehfombaaGreatDoorGB
import Derived.Test.YthnfgmhehfombaaGreatDoorGC
import Derived.WalkLawsBesides
import Derived.ProofKit
set_option linter.unusedVariables false
set_option linter.unusedSimpArgs false
set_option maxRecDepth 4000
set_option maxHeartbeats 4000000
/- Numbers of the base field as one type, and the value that each has. -/
namespace Go.Proofs.YthnfgmhehfombaaGreatDoor.fpn
open Go.RowKit
instance : NeZero RN := ⟨by decide⟩
abbrev F:=Fin RN
def lb (n i:Nat):Int:=((n / 2^(64*i)%2^64:Nat):Int)
theorem pw_two (n:Nat):pw n=((2^(64*n):Nat):Int):=by
 induction n with
 | zero=>rfl
 | succ n ih =>
  rw [pw,ih,show 64*(n+1)=64*n+64 by omega,Nat.pow_add,Int.natCast_mul]
  rfl
theorem lb_rg (n k:Nat):Rg (lb n) k:=fun i _=>by
 unfold lb
 have:n / 2^(64*i)%2^64<2^64:=Nat.mod_lt _ (by decide)
 rw [B64_eq]
 omega
theorem lb_val (n k:Nat):val (lb n) k=((n%2^(64*k):Nat):Int):=by
 induction k with
 | zero=>simp [val,Nat.mod_one]
 | succ k ih =>
  rw [val,ih,pw_two]
  unfold lb
  rw [← Int.natCast_mul,← Int.natCast_add,show 64*(k+1)=64*k+64 by omega,Nat.pow_add,Nat.mod_mul]
  rw [Nat.mul_comm (2^(64*k))]
theorem RN_lt:RN<2^(64*6):=by decide +kernel
theorem lbF (a:F):val (lb a.val) 6=(a.val:Int):=by
 rw [lb_val,Nat.mod_eq_of_lt (Nat.lt_trans a.isLt RN_lt)]
def FC (a:F):List Value:=[.int .u64 (lb a.val 0),.int .u64 (lb a.val 1),.int .u64 (lb a.val 2),.int .u64 (lb a.val 3),.int .u64 (lb a.val 4),.int .u64 (lb a.val 5)]
def FV (a:F):Value:=.agg (FC a).toArray
theorem FV_agg (a:F):FV a=.agg #[.int .u64 (lb a.val 0),.int .u64 (lb a.val 1),.int .u64 (lb a.val 2),.int .u64 (lb a.val 3),.int .u64 (lb a.val 4),.int .u64 (lb a.val 5)]:=rfl
theorem FC_len (a:F):(FC a).length=6:=rfl
theorem agg_of {h:Nat→Int} (rh:Rg h 6) {c:F} (hc:val h 6=(c.val:Int)):Value.agg #[.int .u64 (h 0),.int .u64 (h 1),.int .u64 (h 2),.int .u64 (h 3),.int .u64 (h 4),.int .u64 (h 5)]=FV c:=by
 have e:=digits rh (lb_rg c.val 6) (by rw [hc,lbF])
 rw [FV_agg,e 0 (by decide),e 1 (by decide),e 2 (by decide),e 3 (by decide),e 4 (by decide),e 5 (by decide)]
theorem lt_RI (a:F):val (lb a.val) 6<RI:=by rw [lbF,RI_RN];have:=a.isLt;omega
theorem val_add (a b:F):(((a+b:F).val:Nat):Int)=((a.val:Int)+b.val)%RI:=by
 rw [Fin.val_add,RI_RN,Int.natCast_emod,Int.natCast_add]
theorem val_mul (a b:F):(((a*b:F).val:Nat):Int)=((a.val:Int)*b.val)%RI:=by
 rw [Fin.val_mul,RI_RN,Int.natCast_emod,Int.natCast_mul]
theorem val_sub (a b:F):(((a-b:F).val:Nat):Int)=((a.val:Int)-b.val)%RI:=by
 have hb:=b.isLt
 rw [Fin.val_sub,RI_RN,Int.natCast_emod,Int.natCast_add,Int.natCast_sub (Nat.le_of_lt hb),show (RN:Int)-b.val+a.val=(a.val-b.val:Int)+RN by omega,Int.add_emod_right]
theorem val_neg (a:F):(((-a:F).val:Nat):Int)=(0-(a.val:Int))%RI:=by
 have:=val_sub 0 a
 rw [show (0:F)-a=-a by grind] at this
 rw [this];rfl
noncomputable def finv (a:F):F:=Classical.choose (⟨Fin.ofNat RN (a.val^(RN-2)),rfl⟩:∃ b:F,b=Fin.ofNat RN (a.val^(RN-2)))
theorem finv_eq (a:F):finv a=Fin.ofNat RN (a.val^(RN-2)):=Classical.choose_spec (⟨Fin.ofNat RN (a.val^(RN-2)),rfl⟩:∃ b:F,b=Fin.ofNat RN (a.val^(RN-2)))
theorem val_finv (a:F):((finv a).val:Int)=(a.val:Int)^(RN-2)%RI:=by
 rw [finv_eq,RI_RN,← cast_pow_mod];rfl
noncomputable def rt (a:F):F:=Classical.choose (⟨Fin.ofNat RN (a.val^SE),rfl⟩:∃ b:F,b=Fin.ofNat RN (a.val^SE))
theorem rt_eq (a:F):rt a=Fin.ofNat RN (a.val^SE):=Classical.choose_spec (⟨Fin.ofNat RN (a.val^SE),rfl⟩:∃ b:F,b=Fin.ofNat RN (a.val^SE))
theorem val_rt (a:F):((rt a).val:Int)=sq a.val:=by
 unfold sq
 rw [rt_eq,RI_RN,← cast_pow_mod];rfl
def great (a:F):Bool:=decide (RN / 2<a.val)
noncomputable def isq (a:F):Bool:=decide (rt a*rt a=a)
noncomputable def root (a:F):F:=if isq a=true then (if great (rt a)=true then -rt a else rt a) else 0
theorem ext_int {a b:F} (h:(a.val:Int)=b.val):a=b:=Fin.ext (by omega)
theorem finv_mul {a : F} (h : a ≠ 0) : a * finv a = 1 := by
  refine ext_int ?_
  have h0 : (a.val : Int) ≠ 0 := fun e => h (Fin.ext (by have : a.val = 0 := by omega
                                                         rw [this]; rfl))
  rw [val_mul, val_finv, invI (by omega) h0 (by rw [RI_RN]; have := a.isLt; omega)]
  rfl
theorem great_int (a:F):decide (RI / 2<(a.val:Int))=great a:=by
 unfold great
 rw [RI_RN]
 congr 1
 refine propext ⟨fun h=>?_,fun h=>?_⟩<;>omega
def Ret (v:Value) (w:World):Ending→World→Prop:=fun e w'=>e=.returned v∧Below w.heap.size w w'
end Go.Proofs.YthnfgmhehfombaaGreatDoor.fpn
/- What is asked of package fp, and what the reference's numbers answer, by values of numbers. -/
namespace Go.Proofs.YthnfgmhehfombaaGreatDoor.fpn
open Go.RowKit
theorem ne_zero {a:F} (h:a≠0):(a.val:Int)≠0:=fun e=>h (Fin.ext (by
 have:a.val=0:=by omega
 rw [this];rfl))
theorem small {n:Nat} (h:n<1000):(n:Int)=((Fin.ofNat RN n:F).val:Int):=by
 show (n:Int)=((n%RN:Nat):Int)
 rw [Nat.mod_eq_of_lt (Nat.lt_trans h (by decide))]
theorem ret1 {f:FuncId} {args:Array Value} {w:World} {X:Int} {c:F}
  (h:Calls Tryz.prog f args w fun e w'=>∃ h:Nat→Int,e=.returned (.agg #[.int .u64 (h 0),.int .u64 (h 1),.int .u64 (h 2),.int .u64 (h 3),.int .u64 (h 4),.int .u64 (h 5)])∧Rg h 6∧val h 6=X∧Below w.heap.size w w')
  (hX:X=(c.val:Int)):Calls Tryz.prog f args w (Ret (FV c) w) :=
 Calls.mono h fun e w' ⟨h,he,rh,vh,hb⟩=>⟨he.trans (congrArg _ (agg_of rh (vh.trans hX))),hb⟩
theorem ret2 {f:FuncId} {args:Array Value} {w:World} {X:Int} {c:F} {v:Value}
  (h:Calls Tryz.prog f args w fun e w'=>∃ h:Nat→Int,e=.returned (.tuple #[.agg #[.int .u64 (h 0),.int .u64 (h 1),.int .u64 (h 2),.int .u64 (h 3),.int .u64 (h 4),.int .u64 (h 5)],v])∧Rg h 6∧val h 6=X∧Below w.heap.size w w')
  (hX:X=(c.val:Int)):Calls Tryz.prog f args w (Ret (.tuple #[FV c,v]) w) :=
 Calls.mono h fun e w' ⟨h,he,rh,vh,hb⟩=>⟨by rw [he,agg_of rh (vh.trans hX)],hb⟩
theorem ret0 {f:FuncId} {args:Array Value} {w:World} {X:Int} {c:F}
  (h:Calls Tryz.prog f args w fun e w'=>∃ v,e=.returned v∧(∃ h:Nat→Int,v=frv h∧Rg h 6∧val h 6=X)∧Below w.heap.size w w')
  (hX:X=(c.val:Int)):Calls Tryz.prog f args w (Ret (FV c) w) :=
 Calls.mono h fun e w' ⟨v,he,⟨h,hv,rh,vh⟩,hb⟩=>⟨by rw [he,hv];exact congrArg _ (agg_of rh (vh.trans hX)),hb⟩
theorem ret3 {f:FuncId} {args:Array Value} {w:World} {X:Int} {c:F} {u:Value}
  (h:Calls Tryz.prog f args w fun e w'=>∃ v,e=.returned (.tuple #[v,u])∧(∃ h:Nat→Int,v=frv h∧Rg h 6∧val h 6=X)∧Below w.heap.size w w')
  (hX:X=(c.val:Int)):Calls Tryz.prog f args w (Ret (.tuple #[FV c,u]) w) :=
 Calls.mono h fun e w' ⟨v,he,⟨h,hv,rh,vh⟩,hb⟩=>⟨by rw [he,hv,show frv h=FV c from agg_of rh (vh.trans hX)],hb⟩
structure FpK (G:World→Prop):Prop where
 stay:∀ {w x:World},G w→Below w.heap.size w x→G x
 add:∀ (a b:F) (w:World),G w→Calls Tryz.prog 118 #[FV a,FV b] w (Ret (FV (a+b)) w)
 sub:∀ (a b:F) (w:World),G w→Calls Tryz.prog 125 #[FV a,FV b] w (Ret (FV (a-b)) w)
 mul:∀ (a b:F) (w:World),G w→Calls Tryz.prog 119 #[FV a,FV b] w (Ret (FV (a*b)) w)
 neg:∀ (a:F) (w:World),G w→Calls Tryz.prog 145 #[FV a] w (Ret (FV (-a)) w)
 of:∀ (n:Nat) (w:World),n<1000→G w→Calls Tryz.prog 120 #[.int .u64 (n:Int)] w (Ret (FV (Fin.ofNat RN n)) w)
 inv:∀ (a:F) (w:World),G w→a≠0→Calls Tryz.prog 158 #[FV a] w (Ret (.tuple #[FV (finv a),.int .i64 0]) w)
 inv0:∀ (w:World),G w→Calls Tryz.prog 158 #[FV 0] w (Ret (.tuple #[FV 0,.int .i64 7]) w)
 may:∀ (f:Nat→Int) (w:World),G w→Rg f 6→Calls Tryz.prog 116 #[frv f] w (Ret (.bool (decide (val f 6<RI))) w)
theorem fpK {G:World→Prop} (K:FpOk G):FpK G where
 stay:=K.stay
 add:=fun a b w g=>ret1 (K.add (lb a.val) (lb b.val) w g (lb_rg _ _) (lb_rg _ _) (lt_RI a) (lt_RI b)) (by rw [lbF,lbF,val_add])
 sub:=fun a b w g=>ret1 (K.sub (lb a.val) (lb b.val) w g (lb_rg _ _) (lb_rg _ _) (lt_RI a) (lt_RI b)) (by rw [lbF,lbF,val_sub])
 mul:=fun a b w g=>ret1 (K.mul (lb a.val) (lb b.val) w g (lb_rg _ _) (lb_rg _ _) (lt_RI a) (lt_RI b)) (by rw [lbF,lbF,val_mul])
 neg:=fun a w g=>ret1 (K.neg (lb a.val) w g (lb_rg _ _) (lt_RI a)) (by rw [lbF,val_neg])
 of:=fun n w hn g=>ret1 (K.of n w g ⟨by omega,by rw [B64_eq];omega⟩) (small hn)
 inv:=fun a w g h=>ret2 (K.inv (lb a.val) w g (lb_rg _ _) (lt_RI a) (by rw [lbF];exact ne_zero h)) (by rw [lbF,val_finv])
 inv0:=fun w g=>ret2 (K.inv0 (lb (0:F).val) w g (lb_rg _ _) (by rw [lbF];rfl)) rfl
 may:=fun f w g rf=>K.may f w g rf
structure RefK:Prop where
 add:∀ (a b:F) (w:World),True→Calls Tryz.prog 45 #[FV a,FV b] w (Ret (FV (a+b)) w)
 sub:∀ (a b:F) (w:World),True→Calls Tryz.prog 81 #[FV a,FV b] w (Ret (FV (a-b)) w)
 mul:∀ (a b:F) (w:World),True→Calls Tryz.prog 46 #[FV a,FV b] w (Ret (FV (a*b)) w)
 neg:∀ (a:F) (w:World),True→Calls Tryz.prog 50 #[FV a] w (Ret (FV (-a)) w)
 of:∀ (n:Nat) (w:World),n<1000→True→Calls Tryz.prog 43 #[.int .u64 (n:Int)] w (Ret (FV (Fin.ofNat RN n)) w)
 inv:∀ (a:F) (w:World),True→a≠0→Calls Tryz.prog 79 #[FV a] w (Ret (.tuple #[FV (finv a),.int .i64 0]) w)
 inv0:∀ (w:World),True→Calls Tryz.prog 79 #[FV 0] w (Ret (.tuple #[FV 0,.int .i64 7]) w)
 may:∀ (f:Nat→Int) (w:World),True→Rg f 6→Calls Tryz.prog 109 #[frv f] w (Ret (.bool (decide (val f 6<RI))) w)
 great:∀ (a:F) (w:World),True→Calls Tryz.prog 77 #[FV a] w (Ret (.bool (great a)) w)
 sqrt:∀ (a:F) (w:World),True→Calls Tryz.prog 44 #[FV a] w (Ret (.tuple #[FV (root a),.bool (isq a)]) w)
end Go.Proofs.YthnfgmhehfombaaGreatDoor.fpn
/- Pairs as one type, the value that each has, and how values are held against each other and built. -/
namespace Go.Proofs.YthnfgmhehfombaaGreatDoor.fpn
open Go.RowKit Pl
structure F2 where
 c0:F
 c1:F
 deriving DecidableEq
namespace F2
theorem ext' {x y:F2} (h0:x.c0=y.c0) (h1:x.c1=y.c1):x=y:=by cases x;cases y;simp_all
instance : Add F2 := ⟨fun x y => ⟨x.c0 + y.c0, x.c1 + y.c1⟩⟩
instance : Sub F2 := ⟨fun x y => ⟨x.c0 - y.c0, x.c1 - y.c1⟩⟩
instance : Neg F2 := ⟨fun x => ⟨-x.c0, -x.c1⟩⟩
instance : Mul F2 := ⟨fun x y => ⟨x.c0 * y.c0 - x.c1 * y.c1, x.c0 * y.c1 + x.c1 * y.c0⟩⟩
instance : OfNat F2 0 := ⟨⟨0, 0⟩⟩
instance : OfNat F2 1 := ⟨⟨1, 0⟩⟩
def conj (x:F2):F2:=⟨x.c0,-x.c1⟩
def norm (x:F2):F:=x.c0*x.c0+x.c1*x.c1
noncomputable def inv (x:F2):F2:=⟨x.c0*finv x.norm,-x.c1*finv x.norm⟩
@[simp] theorem add_c0 (x y:F2):(x+y).c0=x.c0+y.c0:=rfl
@[simp] theorem add_c1 (x y:F2):(x+y).c1=x.c1+y.c1:=rfl
@[simp] theorem sub_c0 (x y:F2):(x-y).c0=x.c0-y.c0:=rfl
@[simp] theorem sub_c1 (x y:F2):(x-y).c1=x.c1-y.c1:=rfl
@[simp] theorem neg_c0 (x:F2):(-x).c0=-x.c0:=rfl
@[simp] theorem neg_c1 (x:F2):(-x).c1=-x.c1:=rfl
@[simp] theorem mul_c0 (x y:F2):(x*y).c0=x.c0*y.c0-x.c1*y.c1:=rfl
@[simp] theorem mul_c1 (x y:F2):(x*y).c1=x.c0*y.c1+x.c1*y.c0:=rfl
@[simp] theorem zero_c0:(0:F2).c0=0:=rfl
@[simp] theorem zero_c1:(0:F2).c1=0:=rfl
@[simp] theorem one_c0:(1:F2).c0=1:=rfl
@[simp] theorem one_c1:(1:F2).c1=0:=rfl
@[simp] theorem conj_c0 (x:F2):(conj x).c0=x.c0:=rfl
@[simp] theorem conj_c1 (x:F2):(conj x).c1=-x.c1:=rfl
end F2
def PC (x:F2):List Value:=FC x.c0++FC x.c1
def PV (x:F2):Value:=.agg (PC x).toArray
theorem PC_len (x:F2):(PC x).length=12:=rfl
theorem lb_eq {a b:F} (h:∀ i,i<6→lb a.val i=lb b.val i):a=b:=ext_int (by rw [← lbF a,← lbF b];exact val_congr h)
theorem eqF (d:Nat) (a b:F) (w:World):(Op.equalIn (d+2) 30 (FV a) (FV b)).run Tryz.prog w=.ok (decide (a=b)) w:=by
 have key:∀ (a b c d' p q a' b' c' d'' p' q':Int),(Op.equalIn (d+2) 30 (.agg #[.int .u64 a,.int .u64 b,.int .u64 c,.int .u64 d',.int .u64 p,.int .u64 q]) (.agg #[.int .u64 a',.int .u64 b',.int .u64 c',.int .u64 d'',.int .u64 p',.int .u64 q'])).run Tryz.prog w=.ok (a == a' && (b == b' && (c == c' && (d' == d'' && (p == p' && q == q'))))) w:=by
  intro a b c d' p q a' b' c' d'' p' q'
  have u3:=Tryz.underlying25
  have a3:=Tryz.isAgg25
  have z3:=Tryz.sizeOf25
  have hE:∀ (x y:Int) (w:World),(Op.equalIn (d+1) 25 (.int .u64 x) (.int .u64 y)).run Tryz.prog w=.ok (x == y) w:=fun x y w=>by
   rw [Op.equalIn.eq_def]
   simp [Sem.run_bind,run_underlying Tryz.underlying25]
  rw [show d+2=(d+1)+1 from rfl,Op.equalIn.eq_def]
  simp only [Sem.run_bind,run_underlying Tryz.underlying30,Result.andThen_ok]
  simp only [Std.Legacy.Range.forIn_eq_forIn_range',Std.Legacy.Range.size,Nat.sub_zero,Nat.add_sub_cancel,Nat.div_one,List.range'_succ,List.range'_zero,List.forIn_cons,List.forIn_nil]
  go_simp
  by_cases h1:a=a'
  ·by_cases h2:b=b'
   ·by_cases h3:c=c'
    ·by_cases h4:d'=d''
     ·by_cases h5:p=p'
      ·by_cases h6:q=q'<;>simp [h1,h2,h3,h4,h5,h6]
      ·simp [h1,h2,h3,h4,h5]
     ·simp [h1,h2,h3,h4]
    ·simp [h1,h2,h3]
   ·simp [h1,h2]
  ·simp [h1]
 rw [FV_agg,FV_agg,key]
 congr 1
 by_cases h:a=b
 ·subst h;simp
 ·rw [decide_eq_false h,Bool.eq_false_iff]
  intro hc
  simp only [Bool.and_eq_true,beq_iff_eq] at hc
  refine h (lb_eq fun i hi=>?_)
  rcases (show i=0∨i=1∨i=2∨i=3∨i=4∨i=5 by omega) with rfl | rfl | rfl | rfl | rfl | rfl
  ·exact hc.1
  ·exact hc.2.1
  ·exact hc.2.2.1
  ·exact hc.2.2.2.1
  ·exact hc.2.2.2.2.1
  ·exact hc.2.2.2.2.2
end Go.Proofs.YthnfgmhehfombaaGreatDoor.fpn
/- How numbers and pairs are held against each other and built, as operations. -/
namespace Go.Proofs.YthnfgmhehfombaaGreatDoor.fpn
open Go.RowKit Pl
theorem cut0 (x:F2):List.take 6 (PC x)=FC x.c0:=rfl
theorem cut1 (x:F2):List.take 6 (List.drop 6 (PC x))=FC x.c1:=rfl
theorem eqP (d:Nat) (x y:F2) (w:World):(Op.equalIn (d+3) 35 (PV x) (PV y)).run Tryz.prog w=.ok (decide (x=y)) w:=by
 have hE:∀ (a b:F) (w:World),(Op.equalIn (d+2) 30 (.agg (FC a).toArray) (.agg (FC b).toArray)).run Tryz.prog w=.ok (decide (a=b)) w:=fun a b w=>eqF d a b w
 have hp0:∀ (x:F2) (w:World),(part 30 (PC x).toArray 0).run Tryz.prog w=.ok (.agg (FC x.c0).toArray) w:=fun x w=>by
  simp [part,Sem.run_bind,Tryz.isAgg30,Tryz.sizeOf30,cut0]
 have hp1:∀ (x:F2) (w:World),(part 30 (PC x).toArray 6).run Tryz.prog w=.ok (.agg (FC x.c1).toArray) w:=fun x w=>by
  simp [part,Sem.run_bind,Tryz.isAgg30,Tryz.sizeOf30,cut1]
 unfold PV
 rw [show d+3=(d+2)+1 from rfl,Op.equalIn.eq_def]
 simp only [Sem.run_bind,run_underlying Tryz.underlying35,Result.andThen_ok]
 simp only [Std.Legacy.Range.forIn_eq_forIn_range',Std.Legacy.Range.size,Nat.sub_zero,Nat.add_sub_cancel,Nat.div_one,List.range'_succ,List.range'_zero,List.forIn_cons,List.forIn_nil]
 simp only [Sem.run_bind,Tryz.sizeOf30,Result.andThen_ok,Nat.zero_mul,Nat.reduceAdd,Nat.reduceMul,Nat.one_mul,hp0,hp1,hE]
 by_cases h0:x.c0=y.c0
 ·by_cases h1:x.c1=y.c1
  ·have:x=y:=F2.ext' h0 h1
   simp [h0,h1,this,hp0,hp1,hE]
  ·have:x≠y:=fun e=>h1 (by rw [e])
   simp [h0,h1,this,hp0,hp1,hE]
 ·have:x≠y:=fun e=>h0 (by rw [e])
  simp [h0,this,hp0,hp1,hE]
theorem guardF (op:BinOp) (x y:Operand) (a b:F) (w:World):(eqGuard op 30 x y (FV a) (FV b)).run Tryz.prog w=.ok () w:=by
 have h:Tryz.prog.eqGuardType Tryz.prog.depth 30=false:=by kernel_rfl
 unfold eqGuard FV
 cases op<;>simp [Sem.run_bind,h]
theorem guardP (op:BinOp) (x y:Operand) (a b:F2) (w:World):(eqGuard op 35 x y (PV a) (PV b)).run Tryz.prog w=.ok () w:=by
 have h:Tryz.prog.eqGuardType Tryz.prog.depth 35=false:=by kernel_rfl
 unfold eqGuard PV
 cases op<;>simp [Sem.run_bind,h]
theorem guardB (op:BinOp) (t:TypeId) (x y:Operand) (m n:Bool) (w:World):(eqGuard op t x y (.bool m) (.bool n)).run Tryz.prog w=.ok () w:=by
 unfold eqGuard
 cases op<;>simp [Sem.run_bind]
theorem eqlF (a b:F) (w:World):(binOp .eql 30 (FV a) (FV b)).run Tryz.prog w=.ok (.bool (decide (a=b))) w:=by
 have:=eqF 9998 a b w
 unfold FV at *
 simp [binOp,Sem.run_bind,Op.equal,Op.maxDepth,this]
theorem neqF (a b:F) (w:World):(binOp .neq 30 (FV a) (FV b)).run Tryz.prog w=.ok (.bool (!decide (a=b))) w:=by
 have:=eqF 9998 a b w
 unfold FV at *
 simp [binOp,Sem.run_bind,Op.equal,Op.maxDepth,this]
theorem eqlP (a b:F2) (w:World):(binOp .eql 35 (PV a) (PV b)).run Tryz.prog w=.ok (.bool (decide (a=b))) w:=by
 have:=eqP 9997 a b w
 unfold PV at *
 simp [binOp,Sem.run_bind,Op.equal,Op.maxDepth,this]
theorem neqP (a b:F2) (w:World):(binOp .neq 35 (PV a) (PV b)).run Tryz.prog w=.ok (.bool (!decide (a=b))) w:=by
 have:=eqP 9997 a b w
 unfold PV at *
 simp [binOp,Sem.run_bind,Op.equal,Op.maxDepth,this]
theorem equalB (a b:Bool) (w:World):(Op.equal 4 (.bool a) (.bool b)).run Tryz.prog w=.ok (a == b) w:=by
 unfold Op.equal
 rw [show Op.maxDepth=9999+1 from rfl,Op.equalIn.eq_def]
 simp only [Sem.run_bind,run_underlying Tryz.underlying4,Result.andThen_ok,Sem.run_pure]
theorem eqlB (a b:Bool) (w:World):(binOp .eql 4 (.bool a) (.bool b)).run Tryz.prog w=.ok (.bool (a == b)) w:=by
 simp [binOp,Sem.run_bind,equalB]
theorem neqB (a b:Bool) (w:World):(binOp .neq 4 (.bool a) (.bool b)).run Tryz.prog w=.ok (.bool (!(a == b))) w:=by
 simp [binOp,Sem.run_bind,equalB]
theorem eqlI (t:TypeId) (k:IntKind) (a b:Int) (w:World):(binOp .eql t (.int k a) (.int k b)).run Tryz.prog w=.ok (.bool (decide (a=b))) w:=by
 by_cases h:a=b<;>simp [binOp,Sem.run_bind,Op.intCmp,h]
theorem neqI (t:TypeId) (k:IntKind) (a b:Int) (w:World):(binOp .neq t (.int k a) (.int k b)).run Tryz.prog w=.ok (.bool (!decide (a=b))) w:=by
 by_cases h:a=b<;>simp [binOp,Sem.run_bind,Op.intCmp,h]
theorem zeroF:(Tryz.prog.info? 30).bind (·.zero)=some (.agg (FC 0).toArray):=by kernel_rfl
theorem zeroP:(Tryz.prog.info? 35).bind (·.zero)=some (.agg (PC 0).toArray):=by kernel_rfl
theorem sizeF:(Tryz.prog.info? 30).map (·.size)=some 6:=by kernel_rfl
theorem sizeP:(Tryz.prog.info? 35).map (·.size)=some 12:=by kernel_rfl
theorem buildF0 (w:World):(Instr.build 30 #[]).run Tryz.prog w=.ok (FV 0) w :=
 run_build_array (sz:=1) (cs:=FC 0) Tryz.underlying30 (by kernel_rfl) zeroF rfl w
theorem buildF1 (w:World):(Instr.build 30 #[(0,.int .u64 1)]).run Tryz.prog w=.ok (FV 1) w :=
 run_build_array (sz:=1) (cs:=FC 1) Tryz.underlying30 (by kernel_rfl) zeroF (by kernel_rfl) w
def QC (f:Nat→Int):List Value:=[.int .u64 (f 0),.int .u64 (f 1),.int .u64 (f 2),.int .u64 (f 3),.int .u64 (f 4),.int .u64 (f 5)]
def QV (f:Nat→Int):Value:=.agg (QC f).toArray
def QC2 (f g:Nat→Int):List Value:=QC f++QC g
def QV2 (f g:Nat→Int):Value:=.agg (QC2 f g).toArray
theorem spl0 (a:F) (x:F2):Pl.splice (PC x) 0 (FC a)=PC ⟨a,x.c1⟩:=rfl
theorem spl1 (a:F) (x:F2):Pl.splice (PC x) 6 (FC a)=PC ⟨x.c0,a⟩:=rfl
theorem buildP0 (w:World):(Instr.build 35 #[]).run Tryz.prog w=.ok (PV 0) w :=
 run_build_array (cs:=PC 0) Tryz.underlying35 sizeF zeroP rfl w
theorem buildPa (a:F) (w:World):(Instr.build 35 #[(0,FV a)]).run Tryz.prog w=.ok (PV ⟨a,0⟩) w :=
 run_build_array (cs:=PC ⟨a,0⟩) Tryz.underlying35 sizeF zeroP (by
  show Instr.fill _ (PC 0).toArray [(0,.agg (FC a).toArray)]=_
  rw [fill_cons (off:=0) (sz:=6) rfl (FC_len a) (by rw [PC_len];omega),spl0];rfl) w
theorem buildP (a b:F) (w:World):(Instr.build 35 #[(0,FV a),(1,FV b)]).run Tryz.prog w=.ok (PV ⟨a,b⟩) w :=
 run_build_array (cs:=PC ⟨a,b⟩) Tryz.underlying35 sizeF zeroP (by
  show Instr.fill _ (PC 0).toArray [(0,.agg (FC a).toArray),(1,.agg (FC b).toArray)]=_
  rw [fill_cons (off:=0) (sz:=6) rfl (FC_len a) (by rw [PC_len];omega),spl0,fill_cons (off:=6) (sz:=6) rfl (FC_len b) (by rw [PC_len];omega),spl1];rfl) w
theorem one_mk:(⟨1,0⟩:F2)=1:=rfl
theorem ofN1:(Fin.ofNat RN 1:F)=1:=by kernel_rfl
theorem FpK.of1 {G:World→Prop} (K:FpK G) (w:World) (hg:G w):Calls Tryz.prog 120 #[.int .u64 1] w (Ret (FV 1) w):=by
 have h:=K.of 1 w (by decide) hg
 rw [ofN1] at h
 exact h
theorem RefK.of1 (R:RefK) (w:World):Calls Tryz.prog 43 #[.int .u64 1] w (Ret (FV 1) w):=by
 have h:=R.of 1 w (by decide) trivial
 rw [ofN1] at h
 exact h
end Go.Proofs.YthnfgmhehfombaaGreatDoor.fpn
/- Types of rows, by short names. -/
namespace Go.Proofs.YthnfgmhehfombaaGreatDoor.fpn
open Go.RowKit Pl
theorem rF:RowT Tryz.prog 30 6 (FC 0):=⟨⟨_,Tryz.underlying30,rfl⟩,sizeF,zeroF⟩
theorem rP:RowT Tryz.prog 35 12 (PC 0):=⟨⟨_,Tryz.underlying35,rfl⟩,sizeP,zeroP⟩
theorem aP:ArrT Tryz.prog 35 2 6:=⟨⟨_,Tryz.underlying35,sizeF⟩⟩
theorem qF:EqT Tryz.prog 30 FV:=⟨fun _ _ _ _ _ w=>guardF _ _ _ _ _ w,eqlF,neqF⟩
theorem qP:EqT Tryz.prog 35 PV:=⟨fun _ _ _ _ _ w=>guardP _ _ _ _ _ w,eqlP,neqP⟩
theorem qB:EqT Tryz.prog 4 Value.bool:=⟨fun _ _ _ _ _ w=>guardB _ _ _ _ _ _ w,fun a b w=>(eqlB a b w).trans (by cases a<;>cases b<;>rfl),fun a b w=>(neqB a b w).trans (by cases a<;>cases b<;>rfl)⟩
theorem nm {α:Type} (a:α):∃ m,m=a:=⟨a,rfl⟩
theorem nF {G:World→Prop} {m a:F} {f:FuncId} {vs:Array Value} (e:m=a) (h:∀ w,G w→Calls Tryz.prog f vs w (Ret (FV a) w)):∀ w,G w→Calls Tryz.prog f vs w (Ret (FV m) w):=e▸h
theorem nP {G:World→Prop} {m a:F2} {f:FuncId} {vs:Array Value} (e:m=a) (h:∀ w,G w→Calls Tryz.prog f vs w (Ret (PV a) w)):∀ w,G w→Calls Tryz.prog f vs w (Ret (PV m) w):=e▸h
theorem nFR {m a:F} {f:FuncId} {vs:Array Value} (e:m=a) (h:∀ w,Calls Tryz.prog f vs w (Ret (FV a) w)):∀ w,Calls Tryz.prog f vs w (Ret (FV m) w):=e▸h
theorem nPR {m a:F2} {f:FuncId} {vs:Array Value} (e:m=a) (h:∀ w,Calls Tryz.prog f vs w (Ret (PV a) w)):∀ w,Calls Tryz.prog f vs w (Ret (PV m) w):=e▸h
theorem nSR {m a:F} {f:FuncId} {vs:Array Value} (e:m=a) (h:∀ w,Calls Tryz.prog f vs w (Ret (PV ⟨a,0⟩) w)):∀ w,Calls Tryz.prog f vs w (Ret (PV ⟨m,0⟩) w):=e▸h
end Go.Proofs.YthnfgmhehfombaaGreatDoor.fpn
/- What the reference's numbers answer; its SqrtP by plan. -/
namespace Go.Proofs.YthnfgmhehfombaaGreatDoor.fpn
open Go.RowKit Pl
theorem ref0mul:∀ (a b:F) (w:World),Calls Tryz.prog 46 #[FV a,FV b] w (Ret (FV (a*b)) w):=fun a b w=>ret0 (mulR_any (lb a.val) (lb b.val) w (lb_rg _ _) (lb_rg _ _) (lt_RI b)) (by rw [lbF,lbF,val_mul])
theorem ref0neg:∀ (a:F) (w:World),Calls Tryz.prog 50 #[FV a] w (Ret (FV (-a)) w):=fun a w=>ret0 (negR_any (lb a.val) w (lb_rg _ _) (lt_RI a)) (by rw [lbF,val_neg])
theorem ref0great:∀ (a:F) (w:World),Calls Tryz.prog 77 #[FV a] w (Ret (.bool (great a)) w):=fun a w=>by have h:=greatP_any (lb a.val) w (lb_rg _ _);rw [lbF,great_int] at h;exact h
def isNm (M N:Nat) (v:Value) (w:World):Prop:=∃ p n c f,v=.slice p n c∧n≤M∧n≤c∧c≤9223372036854775807∧At w p n f∧Rg f n∧val f n=(N:Int)
theorem isNm.stay {M N:Nat} {v:Value} {w x:World} (h:isNm M N v w) (hb:Below w.heap.size w x):isNm M N v x:=by
 obtain ⟨p,n,c,f,e,h1,h2,h3,a,r,v⟩:=h
 exact ⟨p,n,c,f,e,h1,h2,h3,AtK.below a hb,r,v⟩
theorem nmP (w:World):Calls Tryz.prog 76 #[] w fun e w'=>∃ v,e=.returned v∧isNm 24 RN v w'∧Below w.heap.size w w' :=
 Calls.mono (refR_any w) fun e w' ⟨he,hb,_,m⟩=>⟨_,he,⟨_,6,6,rL,rfl,by decide,by decide,by decide,m.at,rL_rg,rL_val⟩,hb⟩
theorem nmSum (u v:Value) (w:World) (hu:isNm 24 RN u w) (hv:isOne 1 v w):Calls Tryz.prog 75 #[u,v] w fun e w'=>∃ v,e=.returned v∧isNm 100 (RN+1) v w'∧Below w.heap.size w w':=by
 obtain ⟨p,n,c,f,rfl,h1,h2,h3,a,r,vv⟩:=hu
 obtain ⟨k,rfl,b⟩:=hv
 have b':At w (some ⟨k,0,none⟩) 1 (one 1):=AtK.congr b fun i hi=>by obtain rfl:i=0:=(by omega);rfl
 refine Calls.mono (refSum_any p _ n 1 c 1 f (one 1) w h2 h3 (by decide) (by decide) a b' r (one_rg ⟨by decide,by rw [B64_eq];decide⟩ 1) (by omega) (by decide)) ?_
 rintro e w' ⟨v,he,hb,q,m,c',g,rfl,l1,l2,l3,ha,hr,-,hv⟩
 exact ⟨_,he,⟨q,m,c',g,rfl,by omega,l1,l2,ha,hr,by rw [hv,vv,val_one];rfl⟩,hb⟩
theorem nmHalf (N:Nat) (h0:0<N) (u:Value) (w:World) (hu:isNm 100 N u w):Calls Tryz.prog 74 #[u] w fun e w'=>∃ v,e=.returned v∧isNm 100 (N / 2) v w'∧Below w.heap.size w w':=by
 obtain ⟨p,n,c,f,rfl,h1,h2,h3,a,r,vv⟩:=hu
 have hn:0<n:=by
  rcases Nat.eq_zero_or_pos n with rfl | h
  ·simp [val] at vv;omega
  ·exact h
 refine Calls.mono (half_any p n c f w hn (by omega) h2 a r) ?_
 rintro e w' ⟨b,he,hb,m⟩
 exact ⟨_,he,⟨_,n,n,_,rfl,h1,Nat.le_refl _,by omega,m.at,hv_rg r,by rw [hv_val hn,vv];rfl⟩,hb⟩
theorem SE_four:(RN+1) / 2 / 2=SE:=by unfold SE;rw [Nat.div_div_eq_div_mul]
theorem nmPow (a:F) (u:Value) (w:World) (hu:isNm 100 ((RN+1) / 2 / 2) u w):Calls Tryz.prog 73 #[FV a,u] w (Ret (FV (rt a)) w):=by
 rw [SE_four] at hu
 obtain ⟨p,n,c,f,rfl,h1,h2,h3,ha,r,vv⟩:=hu
 exact ret0 (powR_any (lb a.val) p n c f SE w (lb_rg _ _) (lt_RI a) (by omega) ha r vv) (by rw [lbF,val_rt];rfl)
theorem sqrt0 (a:F) (w:World) (h:rt a*rt a≠a):Calls Tryz.prog 44 #[FV a] w (Ret (.tuple #[FV 0,.bool false]) w):=by
 have hp0:=Heap.start w
 go_enter Tryz.func44,Tryz.ntmps44
 refine sgsD [.alloc (FC a),.alloc (FC 0),.det (.bool false)] [0,1,2] [0,0,0] (fun L d=>[d 0,L.p 0,L.p 1]++D d 3 20) (fun L=>[(L.b 0,FC a),(L.b 1,FC 0)]) hp0 ⟨
  oB,oZ rF,oA,
  trivial⟩ (fun L0 _ w1 hp1=>?_)
 refine sdrD [.det (FV a),.any (isNm 24 RN),.any (isOne 1),.any (isNm 100 (RN+1)),.any (isNm 100 ((RN+1) / 2)),.any (isNm 100 (((RN+1) / 2) / 2)),.det (FV (rt a)),.alloc (FC 0),.store (.new 7) 0 (FC (rt a)) (FC (rt a))] (nn 9) [0,0,0,6,14,30,63,0,255] (fun L d=>[d 0,L0.p 0,L0.p 1,d 3,L.p 7]++D d 5 18) (fun L=>[(L0.b 0,FC a),(L0.b 1,FC 0),(L.b 7,FC (rt a))]) hp1 ⟨
  oL 0 0 rF,oY (fun L=>#[]) (fun _ _ _ h hb=>h.stay hb) (fun _ w _=>nmP w),oS1 Tryz.underlying54 (by kernel_rfl) (by kernel_rfl),oY (fun L=>#[L.v 1,L.v 2]) (fun _ _ _ h hb=>h.stay hb) (fun L w hs=>nmSum _ _ w (hs.any 1 _ rfl rfl) (hs.any 2 _ rfl rfl)),
  oY (fun L=>#[L.v 3]) (fun _ _ _ h hb=>h.stay hb) (fun L w hs=>nmHalf (RN+1) (by decide) _ w (hs.any 3 _ rfl rfl)),oY (fun L=>#[L.v 4]) (fun _ _ _ h hb=>h.stay hb) (fun L w hs=>nmHalf ((RN+1) / 2) (by decide) _ w (hs.any 4 _ rfl rfl)),
  oCS (fun L=>#[FV a,L.v 5]) (fun L w hs=>nmPow a _ w (hs.any 5 _ rfl rfl)),oZ rF,oT rF,
  trivial⟩ (fun L1 _ w2 hp2=>?_)
 refine wp_seq_k (fun K3 k3=>?_)
 refine sdrD [.det (FV (rt a)),.det (FV (rt a)),.det (FV ((rt a)*(rt a))),.det (FV a),.det (.bool true)] (nn 5) [0,0,3,0,15] (fun L d=>D d 0 2++([L0.p 1]++(D d 3 13++([.bool true]++D d 17 6)))) (fun L=>[(L0.b 0,FC a),(L0.b 1,FC 0),(L1.b 7,FC (rt a))]) hp2 ⟨
  oL 2 0 rF,oL 2 0 rF,oR (ref0mul (rt a) (rt a)),oL 0 0 rF,oU (a:=((rt a)*(rt a))) (b:=a) qF (yes' h),
  trivial⟩ (fun L2 _ w3 hp3=>?_)
 refine cT ?_
 refine sgsD [.det (FV 0),.store (.base 1) 0 (FC 0) (FC 0),.det (.bool false)] [0,1,2] [0,1,3] (fun L d=>D d 0 2++([L0.p 1,.bool false]++D d 4 19)) (fun L=>[(L0.b 0,FC a),(L0.b 1,FC 0),(L1.b 7,FC (rt a))]) hp3 ⟨
  oD buildF0,oT rF,oA,
  trivial⟩ (fun L3 _ w4 hp4=>?_)
 refine wp_ret ?_
 refine bodyPost_ret (v:=.tuple #[FV 0,.bool false]) ?_ rfl ?_
 ·exact rct rF rfl (by kernel_rfl) (by kernel_rfl) (hp4.bound 1 rfl).2
 ·exact ⟨rfl,hp4.bel⟩
theorem sqrt1 (a:F) (w:World) (h:rt a*rt a=a) (hgr:great (rt a)=false):Calls Tryz.prog 44 #[FV a] w (Ret (.tuple #[FV (rt a),.bool true]) w):=by
 have hp0:=Heap.start w
 go_enter Tryz.func44,Tryz.ntmps44
 refine sgsD [.alloc (FC a),.alloc (FC 0),.det (.bool false)] [0,1,2] [0,0,0] (fun L d=>[d 0,L.p 0,L.p 1]++D d 3 20) (fun L=>[(L.b 0,FC a),(L.b 1,FC 0)]) hp0 ⟨
  oB,oZ rF,oA,
  trivial⟩ (fun L0 _ w1 hp1=>?_)
 refine sdrD [.det (FV a),.any (isNm 24 RN),.any (isOne 1),.any (isNm 100 (RN+1)),.any (isNm 100 ((RN+1) / 2)),.any (isNm 100 (((RN+1) / 2) / 2)),.det (FV (rt a)),.alloc (FC 0),.store (.new 7) 0 (FC (rt a)) (FC (rt a))] (nn 9) [0,0,0,6,14,30,63,0,255] (fun L d=>[d 0,L0.p 0,L0.p 1,d 3,L.p 7]++D d 5 18) (fun L=>[(L0.b 0,FC a),(L0.b 1,FC 0),(L.b 7,FC (rt a))]) hp1 ⟨
  oL 0 0 rF,oY (fun L=>#[]) (fun _ _ _ h hb=>h.stay hb) (fun _ w _=>nmP w),oS1 Tryz.underlying54 (by kernel_rfl) (by kernel_rfl),oY (fun L=>#[L.v 1,L.v 2]) (fun _ _ _ h hb=>h.stay hb) (fun L w hs=>nmSum _ _ w (hs.any 1 _ rfl rfl) (hs.any 2 _ rfl rfl)),
  oY (fun L=>#[L.v 3]) (fun _ _ _ h hb=>h.stay hb) (fun L w hs=>nmHalf (RN+1) (by decide) _ w (hs.any 3 _ rfl rfl)),oY (fun L=>#[L.v 4]) (fun _ _ _ h hb=>h.stay hb) (fun L w hs=>nmHalf ((RN+1) / 2) (by decide) _ w (hs.any 4 _ rfl rfl)),
  oCS (fun L=>#[FV a,L.v 5]) (fun L w hs=>nmPow a _ w (hs.any 5 _ rfl rfl)),oZ rF,oT rF,
  trivial⟩ (fun L1 _ w2 hp2=>?_)
 refine wp_seq_k (fun K3 k3=>?_)
 refine sdrD [.det (FV (rt a)),.det (FV (rt a)),.det (FV ((rt a)*(rt a))),.det (FV a),.det (.bool false)] (nn 5) [0,0,3,0,15] (fun L d=>D d 0 2++([L0.p 1,d 3,L1.p 7]++(D d 5 11++([.bool false]++D d 17 6)))) (fun L=>[(L0.b 0,FC a),(L0.b 1,FC 0),(L1.b 7,FC (rt a))]) hp2 ⟨
  oL 2 0 rF,oL 2 0 rF,oR (ref0mul (rt a) (rt a)),oL 0 0 rF,oU (a:=((rt a)*(rt a))) (b:=a) qF (nay' h),
  trivial⟩ (fun L2 _ w3 hp3=>?_)
 refine cfk (k3 _ _ ?_)
 refine wp_seq_k (fun K5 k5=>?_)
 refine sgsD [.det (FV (rt a)),.det (.bool false)] [0,1] [0,1] (fun L d=>D d 0 2++([L0.p 1,d 3,L1.p 7]++(D d 5 14++([.bool false]++D d 20 3)))) (fun L=>[(L0.b 0,FC a),(L0.b 1,FC 0),(L1.b 7,FC (rt a))]) hp3 ⟨
  oL 2 0 rF,oH (v:=.bool false) (vs:=#[FV (rt a)]) (fun w _ _=>by have h:=ref0great (rt a) w;rw [hgr] at h;exact h),
  trivial⟩ (fun L3 _ w4 hp4=>?_)
 refine cfk (k5 _ _ ?_)
 refine sgsD [.det (FV (rt a)),.store (.base 1) 0 (FC (rt a)) (FC (rt a)),.det (.bool true)] [0,1,2] [0,1,3] (fun L d=>D d 0 2++([L0.p 1,.bool true]++D d 4 19)) (fun L=>[(L0.b 0,FC a),(L0.b 1,FC (rt a)),(L1.b 7,FC (rt a))]) hp4 ⟨
  oL 2 0 rF,oT rF,oA,
  trivial⟩ (fun L4 _ w5 hp5=>?_)
 refine wp_ret ?_
 refine bodyPost_ret (v:=.tuple #[FV (rt a),.bool true]) ?_ rfl ?_
 ·exact rct rF rfl (by kernel_rfl) (by kernel_rfl) (hp5.bound 1 rfl).2
 ·exact ⟨rfl,hp5.bel⟩
theorem sqrt2 (a:F) (w:World) (h:rt a*rt a=a) (hgr:great (rt a)=true):Calls Tryz.prog 44 #[FV a] w (Ret (.tuple #[FV (-rt a),.bool true]) w):=by
 have hp0:=Heap.start w
 go_enter Tryz.func44,Tryz.ntmps44
 refine sgsD [.alloc (FC a),.alloc (FC 0),.det (.bool false)] [0,1,2] [0,0,0] (fun L d=>[d 0,L.p 0,L.p 1]++D d 3 20) (fun L=>[(L.b 0,FC a),(L.b 1,FC 0)]) hp0 ⟨
  oB,oZ rF,oA,
  trivial⟩ (fun L0 _ w1 hp1=>?_)
 refine sdrD [.det (FV a),.any (isNm 24 RN),.any (isOne 1),.any (isNm 100 (RN+1)),.any (isNm 100 ((RN+1) / 2)),.any (isNm 100 (((RN+1) / 2) / 2)),.det (FV (rt a)),.alloc (FC 0),.store (.new 7) 0 (FC (rt a)) (FC (rt a))] (nn 9) [0,0,0,6,14,30,63,0,255] (fun L d=>[d 0,L0.p 0,L0.p 1,d 3,L.p 7]++D d 5 18) (fun L=>[(L0.b 0,FC a),(L0.b 1,FC 0),(L.b 7,FC (rt a))]) hp1 ⟨
  oL 0 0 rF,oY (fun L=>#[]) (fun _ _ _ h hb=>h.stay hb) (fun _ w _=>nmP w),oS1 Tryz.underlying54 (by kernel_rfl) (by kernel_rfl),oY (fun L=>#[L.v 1,L.v 2]) (fun _ _ _ h hb=>h.stay hb) (fun L w hs=>nmSum _ _ w (hs.any 1 _ rfl rfl) (hs.any 2 _ rfl rfl)),
  oY (fun L=>#[L.v 3]) (fun _ _ _ h hb=>h.stay hb) (fun L w hs=>nmHalf (RN+1) (by decide) _ w (hs.any 3 _ rfl rfl)),oY (fun L=>#[L.v 4]) (fun _ _ _ h hb=>h.stay hb) (fun L w hs=>nmHalf ((RN+1) / 2) (by decide) _ w (hs.any 4 _ rfl rfl)),
  oCS (fun L=>#[FV a,L.v 5]) (fun L w hs=>nmPow a _ w (hs.any 5 _ rfl rfl)),oZ rF,oT rF,
  trivial⟩ (fun L1 _ w2 hp2=>?_)
 refine wp_seq_k (fun K3 k3=>?_)
 refine sdrD [.det (FV (rt a)),.det (FV (rt a)),.det (FV ((rt a)*(rt a))),.det (FV a),.det (.bool false)] (nn 5) [0,0,3,0,15] (fun L d=>D d 0 2++([L0.p 1,d 3,L1.p 7]++(D d 5 11++([.bool false]++D d 17 6)))) (fun L=>[(L0.b 0,FC a),(L0.b 1,FC 0),(L1.b 7,FC (rt a))]) hp2 ⟨
  oL 2 0 rF,oL 2 0 rF,oR (ref0mul (rt a) (rt a)),oL 0 0 rF,oU (a:=((rt a)*(rt a))) (b:=a) qF (nay' h),
  trivial⟩ (fun L2 _ w3 hp3=>?_)
 refine cfk (k3 _ _ ?_)
 refine wp_seq_k (fun K5 k5=>?_)
 refine sgsD [.det (FV (rt a)),.det (.bool true)] [0,1] [0,1] (fun L d=>D d 0 2++([L0.p 1,d 3,L1.p 7]++(D d 5 14++([.bool true]++D d 20 3)))) (fun L=>[(L0.b 0,FC a),(L0.b 1,FC 0),(L1.b 7,FC (rt a))]) hp3 ⟨
  oL 2 0 rF,oH (v:=.bool true) (vs:=#[FV (rt a)]) (fun w _ _=>by have h:=ref0great (rt a) w;rw [hgr] at h;exact h),
  trivial⟩ (fun L3 _ w4 hp4=>?_)
 refine cT ?_
 refine gsD [.det (FV (rt a)),.det (FV (-(rt a))),.store (.base 2) 0 (FC (-(rt a))) (FC (-(rt a)))] [0,1,2] [0,1,3] (fun L d=>D d 0 2++([L0.p 1,d 3,L1.p 7]++D d 5 18)) (fun L=>[(L0.b 0,FC a),(L0.b 1,FC 0),(L1.b 7,FC (-(rt a)))]) hp4 ⟨
  oL 2 0 rF,oR (ref0neg (rt a)),oT rF,
  trivial⟩ (fun L4 _ w5 hp5=>?_)
 refine k5 _ _ ?_
 refine sgsD [.det (FV (-(rt a))),.store (.base 1) 0 (FC (-(rt a))) (FC (-(rt a))),.det (.bool true)] [0,1,2] [0,1,3] (fun L d=>D d 0 2++([L0.p 1,.bool true]++D d 4 19)) (fun L=>[(L0.b 0,FC a),(L0.b 1,FC (-(rt a))),(L1.b 7,FC (-(rt a)))]) hp5 ⟨
  oL 2 0 rF,oT rF,oA,
  trivial⟩ (fun L5 _ w6 hp6=>?_)
 refine wp_ret ?_
 refine bodyPost_ret (v:=.tuple #[FV (-(rt a)),.bool true]) ?_ rfl ?_
 ·exact rct rF rfl (by kernel_rfl) (by kernel_rfl) (hp6.bound 1 rfl).2
 ·exact ⟨rfl,hp6.bel⟩
theorem ref0sqrt (a:F) (w:World):Calls Tryz.prog 44 #[FV a] w (Ret (.tuple #[FV (root a),.bool (isq a)]) w):=by
 by_cases h:rt a*rt a=a
 ·have hq:isq a=true:=decide_eq_true h
  unfold root
  rw [if_pos hq,hq]
  cases hgr:great (rt a) with
  | false=>rw [if_neg (by decide)];exact sqrt1 a w h hgr
  | true=>rw [if_pos rfl];exact sqrt2 a w h hgr
 ·have hq:isq a=false:=decide_eq_false h
  unfold root
  rw [if_neg (by rw [hq];decide),hq]
  exact sqrt0 a w h
theorem refK:RefK where
 add:=fun a b w _=>ret0 (addR_any (lb a.val) (lb b.val) w (lb_rg _ _) (lb_rg _ _) (lt_RI a) (lt_RI b)) (by rw [lbF,lbF,val_add])
 sub:=fun a b w _=>ret0 (subR_any (lb a.val) (lb b.val) w (lb_rg _ _) (lb_rg _ _) (lt_RI a) (lt_RI b)) (by rw [lbF,lbF,val_sub])
 mul:=fun a b w _=>ret0 (mulR_any (lb a.val) (lb b.val) w (lb_rg _ _) (lb_rg _ _) (lt_RI b)) (by rw [lbF,lbF,val_mul])
 neg:=fun a w _=>ret0 (negR_any (lb a.val) w (lb_rg _ _) (lt_RI a)) (by rw [lbF,val_neg])
 of:=fun n w hn _=>Calls.mono (refOf_any n w) fun e w' ⟨he,hb⟩=>⟨he.trans (congrArg _ (agg_of (h:=one n) (one_rg ⟨by omega,by rw [B64_eq];omega⟩ 6) (by rw [val_one4];exact small hn))),hb⟩
 inv:=fun a w _ h=>ret3 (invR_any (lb a.val) w (lb_rg _ _) (lt_RI a) (by rw [lbF];exact ne_zero h)) (by rw [lbF,val_finv])
 inv0:=fun w _=>invR_zero (lb (0:F).val) w (lb_rg _ _) (by rw [lbF];rfl)
 may:=fun f w _ rf=>mayR_any f w rf
 great:=fun a w _=>by have h:=greatP_any (lb a.val) w (lb_rg _ _);rw [lbF,great_int] at h;exact h
 sqrt:=fun a w _=>ref0sqrt a w
end Go.Proofs.YthnfgmhehfombaaGreatDoor.fpn
/- The base field: powers, squares, roots, which of two opposites is Great. No program is named here. -/
namespace Go.Proofs.YthnfgmhehfombaaGreatDoor.fpn
def fpow (a:F) (n:Nat):F:=Fin.ofNat RN (a.val^n)
theorem fpow_val (a:F) (n:Nat):(fpow a n).val=a.val^n%RN:=rfl
theorem fpow_add (a:F) (m n:Nat):fpow a (m+n)=fpow a m*fpow a n:=Fin.ext (by
 rw [Fin.val_mul,fpow_val,fpow_val,fpow_val,Nat.pow_add,Nat.mul_mod])
theorem fpow_mul (a b:F) (n:Nat):fpow (a*b) n=fpow a n*fpow b n:=Fin.ext (by
 rw [Fin.val_mul,fpow_val,fpow_val,fpow_val,Fin.val_mul,← Nat.pow_mod,Nat.mul_pow,Nat.mul_mod])
theorem fpow_one (a:F):fpow a 1=a:=Fin.ext (by rw [fpow_val,Nat.pow_one,Nat.mod_eq_of_lt a.isLt])
theorem fpow_two (a:F):fpow a 2=a*a:=by rw [show (2:Nat)=1+1 from rfl,fpow_add,fpow_one]
theorem fpow_pow (a:F) (m n:Nat):fpow (fpow a m) n=fpow a (m*n):=Fin.ext (by
 rw [fpow_val,fpow_val,fpow_val,← Nat.pow_mod,← Nat.pow_mul])
theorem one_val:((1:F).val:Int)=1:=by kernel_rfl
theorem zero_val:(0:F).val=0:=rfl
theorem fermatF {a:F} (h:a≠0):fpow a (RN-1)=1:=by
 refine ext_int ?_
 have h0:(a.val:Int)≠0:=fun e=>h (Fin.ext (by
  have:a.val=0:=by omega
  rw [this];rfl))
 have:=fermatI (A:=(a.val:Int)) (by omega) h0 (by rw [RI_RN];have:=a.isLt;omega)
 rw [RI_RN,← cast_pow_mod] at this
 rw [fpow_val,one_val]
 exact this
theorem no_zero {a b:F} (h:a*b=0):a=0∨b=0:=by
 by_cases h0:a=0
 ·exact .inl h0
 ·refine .inr ?_
  have:=finv_mul h0
  have e:b=finv a*(a*b):=by grind
  rw [e,h];grind
theorem two_ne:(2:F)≠0:=fun h=>absurd (congrArg Fin.val h) (by decide +kernel)
theorem neg_one_ne:(-1:F)≠1:=fun h=>absurd (congrArg Fin.val h) (by decide +kernel)
def eul (a:F):F:=fpow a ((RN-1) / 2)
theorem eul_sq {a:F} (h:a≠0):eul a*eul a=1:=by
 unfold eul
 rw [← fpow_add,show (RN-1) / 2+(RN-1) / 2=RN-1 by decide +kernel]
 exact fermatF h
theorem rt_sq (a:F):rt a*rt a=a*eul a:=by
 have:rt a=fpow a SE:=rt_eq a
 rw [this]
 unfold eul
 rw [← fpow_add,show SE+SE=1+(RN-1) / 2 by decide +kernel,fpow_add,fpow_one]
theorem eul_neg_one:eul (-1)=-1:=by
 refine ext_int ?_
 unfold eul
 have h:((-1:F).val:Nat)=RN-1:=by kernel_rfl
 rw [fpow_val,h]
 have:pm RN (RN-1) 384 ((RN-1) / 2)=RN-1:=by decide +kernel
 rw [← pm_eq RN (RN-1) 384 ((RN-1) / 2) (by decide +kernel),this]
theorem eul_mul (a b:F):eul (a*b)=eul a*eul b:=fpow_mul a b _
theorem eul_neg (a:F):eul (-a)=-eul a:=by
 rw [show -a=-1*a by grind,eul_mul,eul_neg_one];grind
theorem isq_iff {a:F} (h:a≠0):isq a=true↔eul a=1:=by
 unfold isq
 rw [decide_eq_true_eq,rt_sq]
 refine ⟨fun e=>?_,fun e=>by rw [e];grind⟩
 have h1:=finv_mul h
 have:finv a*(a*eul a)=finv a*a:=by rw [e]
 grind
theorem isq_zero:isq 0=true:=by
 unfold isq
 rw [decide_eq_true_eq,rt_sq];grind
theorem isq_of {a r:F} (h:r*r=a):isq a=true:=by
 by_cases h0:a=0
 ·rw [h0];exact isq_zero
 ·rw [isq_iff h0]
  have hr:r≠0:=fun e=>h0 (by rw [← h,e];grind)
  rw [← h,eul_mul,eul_sq hr]
theorem isq_not {a:F} (h0:a≠0) (h:isq a=true):isq (-a)=false:=by
 have hn:-a≠0:=fun e=>h0 (by grind)
 cases hq:isq (-a) with
 | false=>rfl
 | true =>
  rw [isq_iff hn,eul_neg,(isq_iff h0).1 h] at hq
  exact absurd hq neg_one_ne
theorem root_sq {a:F} (h:isq a=true):root a*root a=a:=by
 have h1:rt a*rt a=a:=by unfold isq at h;exact of_decide_eq_true h
 unfold root
 rw [if_pos h]
 split
 ·rw [show -rt a*-rt a=rt a*rt a by grind];exact h1
 ·exact h1
theorem sum_sq {a b:F} (h:a*a+b*b=0):a=0∧b=0:=by
 by_cases hb:b=0
 ·refine ⟨?_,hb⟩
  rw [hb] at h
  have:a*a=0:=by grind
  rcases no_zero this with h | h<;>exact h
 ·exfalso
  have h1:isq (b*b)=true:=isq_of rfl
  have hbb:b*b≠0:=fun e=>by rcases no_zero e with h | h<;>exact hb h
  have h2:=isq_not hbb h1
  have h3:isq (-(b*b))=true:=isq_of (r:=a) (by grind)
  rw [h2] at h3;cases h3
end Go.Proofs.YthnfgmhehfombaaGreatDoor.fpn
/- Pairs: a field; squares and roots. No program is named here. -/
namespace Go.Proofs.YthnfgmhehfombaaGreatDoor.fpn
namespace F2
theorem norm_zero {x:F2} (h:x.norm=0):x=0:=by
 obtain ⟨h0,h1⟩:=sum_sq (a:=x.c0) (b:=x.c1) h
 exact ext' h0 h1
theorem norm_ne {x:F2} (h:x≠0):x.norm≠0:=fun e=>h (norm_zero e)
theorem norm_of_zero:(0:F2).norm=0:=by kernel_rfl
theorem norm_mul (x y:F2):(x*y).norm=x.norm*y.norm:=by unfold norm;simp only [mul_c0,mul_c1];grind
theorem mul_comm' (x y:F2):x*y=y*x:=ext' (by simp only [mul_c0];grind) (by simp only [mul_c1];grind)
theorem mul_assoc' (x y z:F2):x*(y*z)=x*y*z:=ext' (by simp only [mul_c0,mul_c1];grind) (by simp only [mul_c0,mul_c1];grind)
theorem add_mul' (x y z:F2):(x+y)*z=x*z+y*z:=ext' (by simp only [mul_c0,add_c0,add_c1];grind) (by simp only [mul_c1,add_c0,add_c1];grind)
theorem one_mul' (x:F2):1*x=x:=ext' (by simp only [mul_c0,one_c0,one_c1];grind) (by simp only [mul_c1,one_c0,one_c1];grind)
theorem mul_one' (x:F2):x*1=x:=by rw [mul_comm',one_mul']
theorem fz (z a b:F) (hz:z=0):z*a-z*b=z∧z*a+z*b=z:=⟨by grind,by grind⟩
theorem zero_mul' (x:F2):0*x=0:=ext' (fz 0 _ _ rfl).1 (fz 0 _ _ rfl).2
theorem inv_mul {x:F2} (h:x≠0):x*x.inv=1:=by
 have hn:=finv_mul (norm_ne h)
 unfold inv
 refine ext' ?_ ?_
 ·simp only [mul_c0,one_c0];unfold norm at hn ⊢;grind
 ·simp only [mul_c1,one_c1];grind
theorem no_zero' {x y:F2} (h:x*y=0):x=0∨y=0:=by
 have:x.norm*y.norm=0:=by rw [← norm_mul,h,norm_of_zero]
 rcases no_zero this with h | h
 ·exact .inl (norm_zero h)
 ·exact .inr (norm_zero h)
end F2
end Go.Proofs.YthnfgmhehfombaaGreatDoor.fpn
/- Pairs: powers; the power by P is Conj. No program is named here. -/
namespace Go.Proofs.YthnfgmhehfombaaGreatDoor.fpn
namespace F2
def pw2 (x:F2):Nat→F2
 | 0=>1
 | n+1=>pw2 x n*x
theorem pw2_add (x:F2) (m:Nat):∀ n,pw2 x (m+n)=pw2 x m*pw2 x n
 | 0=>(mul_one' _).symm
 | n+1=>by rw [← Nat.add_assoc,pw2,pw2_add x m n,pw2,mul_assoc']
theorem swap4 (a b x y:F2):a*b*(x*y)=a*x*(b*y):=by
 rw [← mul_assoc',mul_assoc' b x y,mul_comm' b x,← mul_assoc' x b y,mul_assoc']
theorem pw2_mul (x y:F2):∀ n,pw2 (x*y) n=pw2 x n*pw2 y n
 | 0=>(mul_one' _).symm
 | n+1=>by rw [pw2,pw2_mul x y n,pw2,pw2,swap4]
theorem pw2_mulexp (x:F2) (m:Nat):∀ n,pw2 x (m*n)=pw2 (pw2 x m) n
 | 0=>rfl
 | n+1=>by rw [Nat.mul_succ,pw2_add,pw2_mulexp x m n,pw2]
theorem pw2_ones:∀ n,pw2 1 n=1
 | 0=>rfl
 | n+1=>by rw [pw2,pw2_ones n,mul_one']
def sm (n:Nat) (x:F2):F2:=⟨Fin.ofNat RN n*x.c0,Fin.ofNat RN n*x.c1⟩
theorem ofN_add (m n:Nat):(Fin.ofNat RN (m+n):F)=Fin.ofNat RN m+Fin.ofNat RN n:=Fin.ext (by
 rw [Fin.val_add]
 show (m+n)%RN=(m%RN+n%RN)%RN
 rw [Nat.add_mod])
theorem fdist (a b c:F):(a+b)*c=a*c+b*c:=by grind
theorem sm_add (m n:Nat) (x:F2):sm (m+n) x=sm m x+sm n x:=ext' (by
 show Fin.ofNat RN (m+n)*x.c0=Fin.ofNat RN m*x.c0+Fin.ofNat RN n*x.c0
 rw [ofN_add,fdist]) (by
 show Fin.ofNat RN (m+n)*x.c1=Fin.ofNat RN m*x.c1+Fin.ofNat RN n*x.c1
 rw [ofN_add,fdist])
theorem smr (k a b c d:F):k*(a*c-b*d)=k*a*c-k*b*d:=by grind
theorem smr' (k a b c d:F):k*(a*c+b*d)=k*a*c+k*b*d:=by grind
theorem sm_mul (n:Nat) (x y:F2):sm n (x*y)=sm n x*y:=ext' (smr _ _ _ _ _) (smr' _ _ _ _ _)
theorem ofN_zero {n:Nat} (h:RN ∣ n):(Fin.ofNat RN n:F)=0:=Fin.ext (by
 show n%RN=0
 exact Nat.mod_eq_zero_of_dvd h)
theorem zm (z a:F) (hz:z=0):z*a=0:=by subst hz;grind
theorem sm_zero {n:Nat} (h:RN ∣ n) (x:F2):sm n x=0:=ext' (zm _ _ (ofN_zero h)) (zm _ _ (ofN_zero h))
theorem om (z a:F) (hz:z=1):z*a=a:=by grind
theorem sm_one (x:F2):sm 1 x=x:=ext' (om _ _ (by kernel_rfl)) (om _ _ (by kernel_rfl))
theorem add_assoc' (x y z:F2):x+y+z=x+(y+z):=ext' (by simp only [add_c0];grind) (by simp only [add_c1];grind)
theorem add_comm' (x y:F2):x+y=y+x:=ext' (by simp only [add_c0];grind) (by simp only [add_c1];grind)
theorem az (a z:F) (hz:z=0):a+z=a:=by grind
theorem add_zero' (x:F2):x+0=x:=ext' (az _ _ rfl) (az _ _ rfl)
theorem zero_add' (x:F2):0+x=x:=by rw [add_comm',add_zero']
def bz (n:Nat) (z:F2):Nat→F2
 | 0=>0
 | k+1=>bz n z k+sm (ch n k) (pw2 z k)
theorem bz_succ (n:Nat) (z:F2):∀ k,bz (n+1) z (k+1)=bz n z (k+1)+bz n z k*z
 | 0=>by
  show 0+sm (ch (n+1) 0) (pw2 z 0)=0+sm (ch n 0) (pw2 z 0)+0*z
  rw [ch_zero,ch_zero,zero_mul',add_zero']
 | k+1=>by
  have ih:=bz_succ n z k
  rw [bz,ih,ch_succ,sm_add,show bz n z (k+1+1)=bz n z (k+1)+sm (ch n (k+1)) (pw2 z (k+1)) from rfl]
  have e:bz n z (k+1)*z=bz n z k*z+sm (ch n k) (pw2 z (k+1)):=by
   rw [show bz n z (k+1)=bz n z k+sm (ch n k) (pw2 z k) from rfl,add_mul',← sm_mul]
   rfl
  rw [e]
  generalize bz n z (k+1)=A
  generalize bz n z k*z=Bq
  generalize sm (ch n k) (pw2 z (k+1))=C
  generalize sm (ch n (k+1)) (pw2 z (k+1))=D
  rw [add_assoc',add_assoc',← add_assoc' D,add_comm' D Bq,← add_assoc' Bq,add_assoc' Bq D,add_comm' D C,add_assoc' Bq]
theorem bz_over (n:Nat) (z:F2):bz n z (n+1+1)=bz n z (n+1):=by
 rw [bz,ch_over n (n+1) (by omega),sm_zero (n:=0) (Nat.dvd_zero _),add_zero']
theorem binom2 (z:F2):∀ n,pw2 (z+1) n=bz n z (n+1)
 | 0=>by
  show (1:F2)=0+sm (ch 0 0) 1
  rw [ch_zero,sm_one,zero_add']
 | n+1=>by
  rw [pw2,binom2 z n,bz_succ n z (n+1),bz_over,mul_comm',add_mul',one_mul',add_comm',mul_comm' z]
theorem ch_dvd {k:Nat} (h0:0<k) (h1:k<RN):RN ∣ ch RN k:=by
 obtain ⟨j,rfl⟩:∃ j,k=j+1:=⟨k-1,by omega⟩
 have h:=ch_mul (RN-1) j
 rw [show RN-1+1=RN by decide +kernel] at h
 have hd:RN ∣ (j+1)*ch RN (j+1):=⟨_,h⟩
 rcases pr_RN.of_mul hd with h2 | h2
 ·have:=Nat.le_of_dvd (by omega) h2;omega
 ·exact h2
theorem bz_P (z:F2):∀ k,k<RN→bz RN z (k+1)=1
 | 0,_=>by
  show 0+sm (ch RN 0) 1=1
  rw [ch_zero,sm_one,zero_add']
 | k+1,h=>by rw [bz,bz_P z k (by omega),sm_zero (ch_dvd (by omega) h),add_zero']
theorem dream2 (z:F2):pw2 (z+1) RN=1+pw2 z RN:=by
 have h:=bz_P z (RN-1) (by decide +kernel)
 rw [show RN-1+1=RN by decide +kernel] at h
 rw [binom2,bz,h,ch_self,sm_one]
def lift (a:F):F2:=⟨a,0⟩
def uu:F2:=⟨0,1⟩
theorem l1 (a b z:F) (hz:z=0):a*b-z*z=a*b:=by grind
theorem l2 (a b z:F) (hz:z=0):a*z+z*b=z:=by grind
theorem lift_mul (a b:F):lift a*lift b=lift (a*b):=ext' (l1 _ _ _ rfl) (l2 _ _ _ rfl)
theorem lift_pw (a:F):∀ n,pw2 (lift a) n=lift (fpow a n)
 | 0=>by
  show (1:F2)=lift (fpow a 0)
  have:fpow a 0=1:=Fin.ext (by rw [fpow_val,Nat.pow_zero];decide +kernel)
  rw [this];rfl
 | n+1=>by rw [pw2,lift_pw a n,lift_mul,fpow_add,fpow_one]
theorem fpow_P (a:F):fpow a RN=a:=by
 by_cases h:a=0
 ·subst h
  exact Fin.ext (by rw [fpow_val,zero_val,Nat.zero_pow (by decide)];rfl)
 ·rw [show RN=(RN-1)+1 by decide +kernel,fpow_add,fermatF h,fpow_one];exact om _ _ rfl
theorem uu_four:pw2 uu 4=1:=by kernel_rfl
theorem uu_P:pw2 uu RN=uu.conj:=by
 rw [show RN=4*(RN / 4)+3 by decide +kernel,pw2_add,pw2_mulexp,uu_four,pw2_ones,one_mul']
 kernel_rfl
theorem m1 (b z o:F) (hz:z=0) (ho:o=1):b*z-z*o=z∧b*o+z*z=b∧b*z-z*(-o)=z∧b*(-o)+z*z=-b:=⟨by grind,by grind,by grind,by grind⟩
theorem lift_uu (b:F):lift b*uu=⟨0,b⟩:=ext' (m1 b 0 1 rfl rfl).1 (m1 b 0 1 rfl rfl).2.1
theorem lift_uuc (b:F):lift b*uu.conj=⟨0,-b⟩:=ext' (m1 b 0 1 rfl rfl).2.2.1 (m1 b 0 1 rfl rfl).2.2.2
theorem m2 (a c z o:F) (hz:z=0) (ho:o=1):a*(z+o)-z*(c+z)=a∧a*(c+z)+z*(z+o)=a*c∧a*(o+z)-z*(z+c)=a∧a*(z+c)+z*(o+z)=a*c:=⟨by grind,by grind,by grind,by grind⟩
theorem split (a c:F):lift a*((⟨0,c⟩:F2)+1)=⟨a,a*c⟩:=ext' (m2 a c 0 1 rfl rfl).1 (m2 a c 0 1 rfl rfl).2.1
theorem split' (a c:F):lift a*(1+(⟨0,c⟩:F2))=⟨a,a*c⟩:=ext' (m2 a c 0 1 rfl rfl).2.2.1 (m2 a c 0 1 rfl rfl).2.2.2
theorem pure_P (b:F):pw2 (⟨0,b⟩:F2) RN=⟨0,-b⟩:=by rw [← lift_uu,pw2_mul,lift_pw,fpow_P,uu_P,lift_uuc]
theorem frob (x:F2):pw2 x RN=x.conj:=by
 obtain ⟨a,b⟩:=x
 by_cases ha:a=0
 ·subst ha;exact pure_P b
 ·have hi:=finv_mul ha
  have e:(⟨a,b⟩:F2)=lift a*((⟨0,finv a*b⟩:F2)+1):=by
   rw [split]
   exact ext' rfl (show b=a*(finv a*b) by grind)
  rw [e,pw2_mul,lift_pw,fpow_P,dream2,pure_P,split',split]
  exact ext' rfl (show a*-(finv a*b)=-(a*(finv a*b)) by grind)
end F2
end Go.Proofs.YthnfgmhehfombaaGreatDoor.fpn
/- Commutative rings, and identities in them, reckoned out. No program is named here. -/
namespace Go.Proofs.YthnfgmhehfombaaGreatDoor.Rn
set_option linter.unusedSectionVars false
class CR (α:Type) [Add α] [Mul α] [Neg α] [Sub α] [OfNat α 0] [OfNat α 1]:Prop where
 add_assoc:∀ a b c:α,a+b+c=a+(b+c)
 add_comm:∀ a b:α,a+b=b+a
 zero_add:∀ a:α,0+a=a
 neg_add:∀ a:α,-a+a=0
 sub_eq:∀ a b:α,a-b=a+-b
 mul_assoc:∀ a b c:α,a*b*c=a*(b*c)
 mul_comm:∀ a b:α,a*b=b*a
 one_mul:∀ a:α,1*a=a
 add_mul:∀ a b c:α,(a+b)*c=a*c+b*c
section
variable {α:Type} [Add α] [Mul α] [Neg α] [Sub α] [OfNat α 0] [OfNat α 1] [R:CR α]
theorem add_zero (a:α):a+0=a:=by rw [R.add_comm,R.zero_add]
theorem add_neg (a:α):a+-a=0:=by rw [R.add_comm,R.neg_add]
theorem mul_one (a:α):a*1=a:=by rw [R.mul_comm,R.one_mul]
theorem mul_add (a b c:α):a*(b+c)=a*b+a*c:=by rw [R.mul_comm,R.add_mul,R.mul_comm b,R.mul_comm c]
theorem cancel {a b c:α} (h:a+b=a+c):b=c:=by
 have:-a+(a+b)=-a+(a+c):=by rw [h]
 rw [← R.add_assoc,← R.add_assoc,R.neg_add,R.zero_add,R.zero_add] at this
 exact this
theorem zero_mul (a:α):0*a=0:=by
 refine cancel (a:=0*a) ?_
 rw [← R.add_mul,R.zero_add,add_zero]
theorem mul_zero (a:α):a*0=0:=by rw [R.mul_comm,zero_mul]
theorem neg_uniq {a b:α} (h:a+b=0):b=-a:=cancel (a:=a) (by rw [h,add_neg])
theorem neg_neg (a:α):- -a=a:=(neg_uniq (R.neg_add a)).symm
theorem neg_mul (a b:α):-a*b=-(a*b):=neg_uniq (by rw [← R.add_mul,add_neg,zero_mul])
theorem neg_zero:-(0:α)=0:=(neg_uniq (R.zero_add 0)).symm
theorem neg_add' (a b:α):-(a+b)=-a+-b:=(neg_uniq (by
 rw [R.add_assoc,R.add_comm b,R.add_assoc,R.neg_add,add_zero,add_neg])).symm
theorem add4 (a b c d:α):a+b+(c+d)=a+c+(b+d):=by
 rw [R.add_assoc,R.add_assoc,← R.add_assoc b,R.add_comm b c,R.add_assoc c]
theorem add_left (a b c:α):a+(b+c)=b+(a+c):=by rw [← R.add_assoc,R.add_comm a b,R.add_assoc]
theorem mul_left (a b c:α):a*(b*c)=b*(a*c):=by rw [← R.mul_assoc,R.mul_comm a b,R.mul_assoc]
def nc:Nat→α
 | 0=>0
 | n+1=>nc n+1
def zc:Int→α
 | .ofNat n=>nc n
 | .negSucc n=>-(nc (n+1))
theorem nc_add (a b:Nat):(nc (a+b):α)=nc a+nc b:=by
 induction b with
 | zero=>exact (add_zero _).symm
 | succ b ih =>
  show nc (a+b)+1=nc a+(nc b+1)
  rw [ih,R.add_assoc]
theorem nc_mul (a b:Nat):(nc (a*b):α)=nc a*nc b:=by
 induction b with
 | zero=>exact (mul_zero _).symm
 | succ b ih =>
  rw [Nat.mul_succ,nc_add,ih]
  show _=nc a*(nc b+1)
  rw [mul_add,mul_one]
theorem zc_neg (a:Int):(zc (-a):α)=-zc a:=by
 cases a with
 | ofNat n =>
  cases n with
  | zero=>exact neg_zero.symm
  | succ n=>rfl
 | negSucc n=>exact (neg_neg _).symm
theorem zc_sub (a b:Nat):(zc ((a:Int)-b):α)=nc a+-nc b:=by
 rcases Nat.le_total b a with h | h
 ·obtain ⟨k,rfl⟩:=Nat.exists_eq_add_of_le h
  rw [show ((b+k:Nat):Int)-b=(k:Nat) by omega]
  show nc k=nc (b+k)+-nc b
  rw [nc_add,R.add_comm (nc b),R.add_assoc,add_neg,add_zero]
 ·obtain ⟨k,rfl⟩:=Nat.exists_eq_add_of_le h
  rw [show (a:Int)-((a+k:Nat):Int)=-((k:Nat):Int) by omega,zc_neg]
  show -nc k=nc a+-nc (a+k)
  rw [nc_add,neg_add',← R.add_assoc,add_neg,R.zero_add]
theorem zc_add (a b:Int):(zc (a+b):α)=zc a+zc b:=by
 cases a with
 | ofNat a =>
  cases b with
  | ofNat b=>exact nc_add a b
  | negSucc b =>
   rw [show (Int.ofNat a+Int.negSucc b)=(a:Int)-((b+1:Nat):Int) by rw [Int.negSucc_eq];simp;omega,zc_sub];rfl
 | negSucc a =>
  cases b with
  | ofNat b =>
   rw [show (Int.negSucc a+Int.ofNat b)=(b:Int)-((a+1:Nat):Int) by rw [Int.negSucc_eq];simp;omega,zc_sub,R.add_comm];rfl
  | negSucc b =>
   rw [show (Int.negSucc a+Int.negSucc b)=-(((a+1)+(b+1):Nat):Int) by rw [Int.negSucc_eq,Int.negSucc_eq];omega,zc_neg]
   show -(nc ((a+1)+(b+1)))=-(nc (a+1))+-(nc (b+1))
   rw [nc_add,neg_add']
theorem zc_mul (a b:Int):(zc (a*b):α)=zc a*zc b:=by
 have key:∀ (n:Nat) (b:Int),(zc ((n:Int)*b):α)=nc n*zc b:=fun n b=>by
  cases b with
  | ofNat b=>exact nc_mul n b
  | negSucc b =>
   rw [show ((n:Int)*Int.negSucc b)=-((n*(b+1):Nat):Int) by rw [Int.negSucc_eq,Int.mul_neg];simp,zc_neg]
   show -(nc (n*(b+1)))=nc n*-(nc (b+1))
   rw [nc_mul,R.mul_comm (nc n) (-_),neg_mul,R.mul_comm (nc n)]
 cases a with
 | ofNat a=>exact key a b
 | negSucc a =>
  rw [show Int.negSucc a*b=-(((a+1:Nat):Int)*b) by rw [Int.negSucc_eq,Int.neg_mul];simp,zc_neg,key]
  show -(nc (a+1)*zc b)=-(nc (a+1))*zc b
  rw [neg_mul]
end
inductive E where
 | v (i:Nat)
 | k (n:Int)
 | o
 | a (x y:E)
 | m (x y:E)
 | n (x:E)
 | s (x y:E)
inductive Q where
 | c (n:Int)
 | x (i:Nat) (q r:Q)
 | u (p q:Q)
def Q.eq:Q→Q→Bool
 | .c a,.c b=>decide (a=b)
 | .x i q r,.x j q' r'=>Nat.beq i j && (Q.eq q q' && Q.eq r r')
 | _,_=>false
def Q.mk (i:Nat) (q r:Q):Q:=match q with
 | .c (.ofNat 0)=>r
 | _=>.x i q r
def Q.add:Nat→Q→Q→Q
 | 0,p,q=>.u p q
 | f+1,p,q=>match p,q with
  | .c a,.c b=>.c (a+b)
  | .c a,.x i q r=>.x i q (Q.add f (.c a) r)
  | .x i q r,.c a=>.x i q (Q.add f r (.c a))
  | .x i q r,.x j q' r'=>if Nat.blt i j then .x i q (Q.add f r (.x j q' r')) else if Nat.blt j i then .x j q' (Q.add f (.x i q r) r') else Q.mk i (Q.add f q q') (Q.add f r r')
  | p,q=>.u p q
def Q.scale (k:Int):Q→Q
 | .c a=>.c (k*a)
 | .x i q r=>.x i (Q.scale k q) (Q.scale k r)
 | .u p q=>.u (Q.scale k p) (Q.scale k q)
def Q.mulX (i:Nat):Q→Q
 | .c (.ofNat 0)=>.c 0
 | .c a=>.x i (.c a) (.c 0)
 | .x j q r=>if Nat.blt j i then .x j (Q.mulX i q) (Q.mulX i r) else .x i (.x j q r) (.c 0)
 | .u p q=>.u (Q.mulX i p) (Q.mulX i q)
def Q.mul (f:Nat) (p:Q):Q→Q
 | .c (.ofNat 0)=>.c 0
 | .c a=>Q.scale a p
 | .x i q r=>Q.add f (Q.mulX i (Q.mul f p q)) (Q.mul f p r)
 | .u q r=>.u (Q.mul f p q) (Q.mul f p r)
def E.nf (f:Nat):E→Q
 | .v i=>.x i (.c 1) (.c 0)
 | .k j=>.c j
 | .o=>.c 1
 | .a x y=>Q.add f (x.nf f) (y.nf f)
 | .m x y=>Q.mul f (x.nf f) (y.nf f)
 | .n x=>Q.scale (-1) (x.nf f)
 | .s x y=>Q.add f (x.nf f) (Q.scale (-1) (y.nf f))
section
variable {α:Type} [Add α] [Mul α] [Neg α] [Sub α] [OfNat α 0] [OfNat α 1]
def E.ev (e:List α):E→α
 | .v i=>e.getD i 0
 | .k j=>zc j
 | .o=>1
 | .a x y=>x.ev e+y.ev e
 | .m x y=>x.ev e*y.ev e
 | .n x=>-x.ev e
 | .s x y=>x.ev e-y.ev e
def Q.ev (e:List α):Q→α
 | .c n=>zc n
 | .x i q r=>e.getD i 0*q.ev e+r.ev e
 | .u p q=>p.ev e+q.ev e
variable [R:CR α]
theorem zc_zero:(zc 0:α)=0:=rfl
theorem zc_one:(zc 1:α)=1:=R.zero_add 1
theorem Q.mk_ev (e:List α) (i:Nat) (q r:Q):(Q.mk i q r).ev e=e.getD i 0*q.ev e+r.ev e:=by
 unfold Q.mk
 split
 ·show r.ev e=_*(0:α)+r.ev e
  rw [mul_zero,R.zero_add]
 ·rfl
theorem Q.add_ev (e:List α):∀ (f:Nat) (p q:Q),(Q.add f p q).ev e=p.ev e+q.ev e:=by
 intro f
 induction f with
 | zero=>intro p q;rfl
 | succ f ih =>
  intro p q
  unfold Q.add
  split
  ·exact zc_add _ _
  ·simp only [Q.ev,ih];exact add_left _ _ _
  ·simp only [Q.ev,ih];exact (R.add_assoc _ _ _).symm
  ·split
   ·simp only [Q.ev,ih];exact (R.add_assoc _ _ _).symm
   ·split
    ·simp only [Q.ev,ih];exact add_left _ _ _
    ·rename_i i q r j q' r' h1 h2
     have hij:i=j:=by
      have h1':¬ i<j:=fun h=>h1 (by rw [Nat.blt_eq];exact h)
      have h2':¬ j<i:=fun h=>h2 (by rw [Nat.blt_eq];exact h)
      omega
     subst hij
     simp only [Q.mk_ev,Q.ev,ih,mul_add]
     exact add4 _ _ _ _
  ·rfl
theorem Q.scale_ev (e:List α) (k:Int):∀ p:Q,(Q.scale k p).ev e=zc k*p.ev e
 | .c a=>zc_mul _ _
 | .x i q r=>by simp only [Q.scale,Q.ev,Q.scale_ev e k q,Q.scale_ev e k r,mul_add];rw [mul_left]
 | .u p q=>by simp only [Q.scale,Q.ev,Q.scale_ev e k p,Q.scale_ev e k q,mul_add]
theorem Q.mulX_ev (e:List α) (i:Nat):∀ p:Q,(Q.mulX i p).ev e=e.getD i 0*p.ev e
 | .c (.ofNat 0)=>(mul_zero (α:=α) _).symm
 | .c (.ofNat (n+1))=>add_zero _
 | .c (.negSucc n)=>add_zero _
 | .x j q r=>by
  simp only [Q.mulX]
  split
  ·simp only [Q.ev,Q.mulX_ev e i q,Q.mulX_ev e i r,mul_add];rw [mul_left]
  ·simp only [Q.ev,zc_zero,add_zero]
 | .u p q=>by simp only [Q.mulX,Q.ev,Q.mulX_ev e i p,Q.mulX_ev e i q,mul_add]
theorem Q.mul_ev (e:List α) (f:Nat) (p:Q):∀ q:Q,(Q.mul f p q).ev e=p.ev e*q.ev e
 | .c (.ofNat 0)=>(mul_zero (α:=α) _).symm
 | .c (.ofNat (n+1))=>(Q.scale_ev e _ p).trans (R.mul_comm _ _)
 | .c (.negSucc n)=>(Q.scale_ev e _ p).trans (R.mul_comm _ _)
 | .x i q r=>by simp only [Q.mul,Q.add_ev,Q.mulX_ev,Q.ev,Q.mul_ev e f p q,Q.mul_ev e f p r,mul_add];rw [mul_left]
 | .u q r=>by simp only [Q.mul,Q.ev,Q.mul_ev e f p q,Q.mul_ev e f p r,mul_add]
theorem E.nf_ev (e:List α) (f:Nat):∀ x:E,(x.nf f).ev e=x.ev e
 | .v i=>by show e.getD i 0*zc 1+zc 0=_;rw [zc_one,mul_one,zc_zero,add_zero];rfl
 | .k j=>rfl
 | .o=>zc_one
 | .a x y=>by simp only [E.nf,E.ev,Q.add_ev,E.nf_ev e f x,E.nf_ev e f y]
 | .m x y=>by simp only [E.nf,E.ev,Q.mul_ev,E.nf_ev e f x,E.nf_ev e f y]
 | .n x=>by
  simp only [E.nf,E.ev,Q.scale_ev,E.nf_ev e f x]
  rw [show (zc (-1):α)=-zc 1 from zc_neg 1,zc_one,neg_mul,R.one_mul]
 | .s x y=>by
  simp only [E.nf,E.ev,Q.add_ev,Q.scale_ev,E.nf_ev e f x,E.nf_ev e f y]
  rw [show (zc (-1):α)=-zc 1 from zc_neg 1,zc_one,neg_mul,R.one_mul,R.sub_eq]
theorem Q.eq_ev (e:List α):∀ p q:Q,Q.eq p q=true→p.ev e=q.ev e
 | .c a,.c b,h=>by rw [of_decide_eq_true h]
 | .x i q r,.x j q' r',h=>by
  simp only [Q.eq,Bool.and_eq_true] at h
  rw [Nat.eq_of_beq_eq_true h.1,Q.ev,Q.ev,Q.eq_ev e q q' h.2.1,Q.eq_ev e r r' h.2.2]
 | .c _,.x ..,h=>by simp [Q.eq] at h
 | .c _,.u ..,h=>by simp [Q.eq] at h
 | .x ..,.c _,h=>by simp [Q.eq] at h
 | .x ..,.u ..,h=>by simp [Q.eq] at h
 | .u ..,.c _,h=>by simp [Q.eq] at h
 | .u ..,.x ..,h=>by simp [Q.eq] at h
 | .u ..,.u ..,h=>by simp [Q.eq] at h
theorem ring (e:List α) (x y:E) (h:Q.eq (x.nf 10000) (y.nf 10000)=true):x.ev e=y.ev e:=by
 rw [← E.nf_ev e 10000 x,← E.nf_ev e 10000 y];exact Q.eq_ev e _ _ h
end
end Go.Proofs.YthnfgmhehfombaaGreatDoor.Rn
/- Threes of pairs and twos of those: their rings. No program is named here. -/
namespace Go.Proofs.YthnfgmhehfombaaGreatDoor.fpn
open Rn
section
variable {α:Type} [Add α] [Mul α] [Neg α] [Sub α] [OfNat α 0] [OfNat α 1] [CR α]
theorem rw0 (a0 a1 a2 b0 b1 b2 c0 c1 c2 xi:α):((((a0*b0)+(xi*((a1*b2)+(a2*b1))))*c0)+(xi*(((((a0*b1)+(a1*b0))+(xi*(a2*b2)))*c2)+((((a0*b2)+(a1*b1))+(a2*b0))*c1))))=((a0*((b0*c0)+(xi*((b1*c2)+(b2*c1)))))+(xi*((a1*(((b0*c2)+(b1*c1))+(b2*c0)))+(a2*(((b0*c1)+(b1*c0))+(xi*(b2*c2))))))):=ring [a0,a1,a2,b0,b1,b2,c0,c1,c2,xi] (.a (.m (.a (.m (.v 0) (.v 3)) (.m (.v 9) (.a (.m (.v 1) (.v 5)) (.m (.v 2) (.v 4))))) (.v 6)) (.m (.v 9) (.a (.m (.a (.a (.m (.v 0) (.v 4)) (.m (.v 1) (.v 3))) (.m (.v 9) (.m (.v 2) (.v 5)))) (.v 8)) (.m (.a (.a (.m (.v 0) (.v 5)) (.m (.v 1) (.v 4))) (.m (.v 2) (.v 3))) (.v 7))))) (.a (.m (.v 0) (.a (.m (.v 3) (.v 6)) (.m (.v 9) (.a (.m (.v 4) (.v 8)) (.m (.v 5) (.v 7)))))) (.m (.v 9) (.a (.m (.v 1) (.a (.a (.m (.v 3) (.v 8)) (.m (.v 4) (.v 7))) (.m (.v 5) (.v 6)))) (.m (.v 2) (.a (.a (.m (.v 3) (.v 7)) (.m (.v 4) (.v 6))) (.m (.v 9) (.m (.v 5) (.v 8)))))))) (by kernel_rfl)
theorem rw1 (a0 a1 a2 b0 b1 b2 c0 c1 c2 xi:α):(((((a0*b0)+(xi*((a1*b2)+(a2*b1))))*c1)+((((a0*b1)+(a1*b0))+(xi*(a2*b2)))*c0))+(xi*((((a0*b2)+(a1*b1))+(a2*b0))*c2)))=(((a0*(((b0*c1)+(b1*c0))+(xi*(b2*c2))))+(a1*((b0*c0)+(xi*((b1*c2)+(b2*c1))))))+(xi*(a2*(((b0*c2)+(b1*c1))+(b2*c0))))):=ring [a0,a1,a2,b0,b1,b2,c0,c1,c2,xi] (.a (.a (.m (.a (.m (.v 0) (.v 3)) (.m (.v 9) (.a (.m (.v 1) (.v 5)) (.m (.v 2) (.v 4))))) (.v 7)) (.m (.a (.a (.m (.v 0) (.v 4)) (.m (.v 1) (.v 3))) (.m (.v 9) (.m (.v 2) (.v 5)))) (.v 6))) (.m (.v 9) (.m (.a (.a (.m (.v 0) (.v 5)) (.m (.v 1) (.v 4))) (.m (.v 2) (.v 3))) (.v 8)))) (.a (.a (.m (.v 0) (.a (.a (.m (.v 3) (.v 7)) (.m (.v 4) (.v 6))) (.m (.v 9) (.m (.v 5) (.v 8))))) (.m (.v 1) (.a (.m (.v 3) (.v 6)) (.m (.v 9) (.a (.m (.v 4) (.v 8)) (.m (.v 5) (.v 7))))))) (.m (.v 9) (.m (.v 2) (.a (.a (.m (.v 3) (.v 8)) (.m (.v 4) (.v 7))) (.m (.v 5) (.v 6)))))) (by kernel_rfl)
theorem rw2 (a0 a1 a2 b0 b1 b2 c0 c1 c2 xi:α):(((((a0*b0)+(xi*((a1*b2)+(a2*b1))))*c2)+((((a0*b1)+(a1*b0))+(xi*(a2*b2)))*c1))+((((a0*b2)+(a1*b1))+(a2*b0))*c0))=(((a0*(((b0*c2)+(b1*c1))+(b2*c0)))+(a1*(((b0*c1)+(b1*c0))+(xi*(b2*c2)))))+(a2*((b0*c0)+(xi*((b1*c2)+(b2*c1)))))):=ring [a0,a1,a2,b0,b1,b2,c0,c1,c2,xi] (.a (.a (.m (.a (.m (.v 0) (.v 3)) (.m (.v 9) (.a (.m (.v 1) (.v 5)) (.m (.v 2) (.v 4))))) (.v 8)) (.m (.a (.a (.m (.v 0) (.v 4)) (.m (.v 1) (.v 3))) (.m (.v 9) (.m (.v 2) (.v 5)))) (.v 7))) (.m (.a (.a (.m (.v 0) (.v 5)) (.m (.v 1) (.v 4))) (.m (.v 2) (.v 3))) (.v 6))) (.a (.a (.m (.v 0) (.a (.a (.m (.v 3) (.v 8)) (.m (.v 4) (.v 7))) (.m (.v 5) (.v 6)))) (.m (.v 1) (.a (.a (.m (.v 3) (.v 7)) (.m (.v 4) (.v 6))) (.m (.v 9) (.m (.v 5) (.v 8)))))) (.m (.v 2) (.a (.m (.v 3) (.v 6)) (.m (.v 9) (.a (.m (.v 4) (.v 8)) (.m (.v 5) (.v 7))))))) (by kernel_rfl)
theorem rw3 (a0 a1 a2 b0 b1 b2 xi:α):((a0*b0)+(xi*((a1*b2)+(a2*b1))))=((b0*a0)+(xi*((b1*a2)+(b2*a1)))):=ring [a0,a1,a2,b0,b1,b2,xi] (.a (.m (.v 0) (.v 3)) (.m (.v 6) (.a (.m (.v 1) (.v 5)) (.m (.v 2) (.v 4))))) (.a (.m (.v 3) (.v 0)) (.m (.v 6) (.a (.m (.v 4) (.v 2)) (.m (.v 5) (.v 1))))) (by kernel_rfl)
theorem rw4 (a0 a1 a2 b0 b1 b2 xi:α):(((a0*b1)+(a1*b0))+(xi*(a2*b2)))=(((b0*a1)+(b1*a0))+(xi*(b2*a2))):=ring [a0,a1,a2,b0,b1,b2,xi] (.a (.a (.m (.v 0) (.v 4)) (.m (.v 1) (.v 3))) (.m (.v 6) (.m (.v 2) (.v 5)))) (.a (.a (.m (.v 3) (.v 1)) (.m (.v 4) (.v 0))) (.m (.v 6) (.m (.v 5) (.v 2)))) (by kernel_rfl)
theorem rw5 (a0 a1 a2 b0 b1 b2:α):(((a0*b2)+(a1*b1))+(a2*b0))=(((b0*a2)+(b1*a1))+(b2*a0)):=ring [a0,a1,a2,b0,b1,b2] (.a (.a (.m (.v 0) (.v 5)) (.m (.v 1) (.v 4))) (.m (.v 2) (.v 3))) (.a (.a (.m (.v 3) (.v 2)) (.m (.v 4) (.v 1))) (.m (.v 5) (.v 0))) (by kernel_rfl)
theorem rw6 (a0 a1 a2 b0 b1 b2 c0 c1 c2 xi:α):(((a0+b0)*c0)+(xi*(((a1+b1)*c2)+((a2+b2)*c1))))=(((a0*c0)+(xi*((a1*c2)+(a2*c1))))+((b0*c0)+(xi*((b1*c2)+(b2*c1))))):=ring [a0,a1,a2,b0,b1,b2,c0,c1,c2,xi] (.a (.m (.a (.v 0) (.v 3)) (.v 6)) (.m (.v 9) (.a (.m (.a (.v 1) (.v 4)) (.v 8)) (.m (.a (.v 2) (.v 5)) (.v 7))))) (.a (.a (.m (.v 0) (.v 6)) (.m (.v 9) (.a (.m (.v 1) (.v 8)) (.m (.v 2) (.v 7))))) (.a (.m (.v 3) (.v 6)) (.m (.v 9) (.a (.m (.v 4) (.v 8)) (.m (.v 5) (.v 7)))))) (by kernel_rfl)
theorem rw7 (a0 a1 a2 b0 b1 b2 c0 c1 c2 xi:α):((((a0+b0)*c1)+((a1+b1)*c0))+(xi*((a2+b2)*c2)))=((((a0*c1)+(a1*c0))+(xi*(a2*c2)))+(((b0*c1)+(b1*c0))+(xi*(b2*c2)))):=ring [a0,a1,a2,b0,b1,b2,c0,c1,c2,xi] (.a (.a (.m (.a (.v 0) (.v 3)) (.v 7)) (.m (.a (.v 1) (.v 4)) (.v 6))) (.m (.v 9) (.m (.a (.v 2) (.v 5)) (.v 8)))) (.a (.a (.a (.m (.v 0) (.v 7)) (.m (.v 1) (.v 6))) (.m (.v 9) (.m (.v 2) (.v 8)))) (.a (.a (.m (.v 3) (.v 7)) (.m (.v 4) (.v 6))) (.m (.v 9) (.m (.v 5) (.v 8))))) (by kernel_rfl)
theorem rw8 (a0 a1 a2 b0 b1 b2 c0 c1 c2:α):((((a0+b0)*c2)+((a1+b1)*c1))+((a2+b2)*c0))=((((a0*c2)+(a1*c1))+(a2*c0))+(((b0*c2)+(b1*c1))+(b2*c0))):=ring [a0,a1,a2,b0,b1,b2,c0,c1,c2] (.a (.a (.m (.a (.v 0) (.v 3)) (.v 8)) (.m (.a (.v 1) (.v 4)) (.v 7))) (.m (.a (.v 2) (.v 5)) (.v 6))) (.a (.a (.a (.m (.v 0) (.v 8)) (.m (.v 1) (.v 7))) (.m (.v 2) (.v 6))) (.a (.a (.m (.v 3) (.v 8)) (.m (.v 4) (.v 7))) (.m (.v 5) (.v 6)))) (by kernel_rfl)
theorem rw9 (a0 a1 a2 xi i:α):((a0*(((a0*a0)-((a1*a2)*xi))*i))+(xi*((a1*(((a1*a1)-(a0*a2))*i))+(a2*((((a2*a2)*xi)-(a0*a1))*i)))))=(((a0*((a0*a0)-((a1*a2)*xi)))+(((a2*(((a2*a2)*xi)-(a0*a1)))+(a1*((a1*a1)-(a0*a2))))*xi))*i):=ring [a0,a1,a2,xi,i] (.a (.m (.v 0) (.m (.s (.m (.v 0) (.v 0)) (.m (.m (.v 1) (.v 2)) (.v 3))) (.v 4))) (.m (.v 3) (.a (.m (.v 1) (.m (.s (.m (.v 1) (.v 1)) (.m (.v 0) (.v 2))) (.v 4))) (.m (.v 2) (.m (.s (.m (.m (.v 2) (.v 2)) (.v 3)) (.m (.v 0) (.v 1))) (.v 4)))))) (.m (.a (.m (.v 0) (.s (.m (.v 0) (.v 0)) (.m (.m (.v 1) (.v 2)) (.v 3)))) (.m (.a (.m (.v 2) (.s (.m (.m (.v 2) (.v 2)) (.v 3)) (.m (.v 0) (.v 1)))) (.m (.v 1) (.s (.m (.v 1) (.v 1)) (.m (.v 0) (.v 2))))) (.v 3))) (.v 4)) (by kernel_rfl)
theorem rw10 (a0 a1 a2 xi i:α):(((a0*((((a2*a2)*xi)-(a0*a1))*i))+(a1*(((a0*a0)-((a1*a2)*xi))*i)))+(xi*(a2*(((a1*a1)-(a0*a2))*i))))=0:=ring [a0,a1,a2,xi,i] (.a (.a (.m (.v 0) (.m (.s (.m (.m (.v 2) (.v 2)) (.v 3)) (.m (.v 0) (.v 1))) (.v 4))) (.m (.v 1) (.m (.s (.m (.v 0) (.v 0)) (.m (.m (.v 1) (.v 2)) (.v 3))) (.v 4)))) (.m (.v 3) (.m (.v 2) (.m (.s (.m (.v 1) (.v 1)) (.m (.v 0) (.v 2))) (.v 4))))) (.k 0) (by kernel_rfl)
theorem rw11 (a0 a1 a2 xi i:α):(((a0*(((a1*a1)-(a0*a2))*i))+(a1*((((a2*a2)*xi)-(a0*a1))*i)))+(a2*(((a0*a0)-((a1*a2)*xi))*i)))=0:=ring [a0,a1,a2,xi,i] (.a (.a (.m (.v 0) (.m (.s (.m (.v 1) (.v 1)) (.m (.v 0) (.v 2))) (.v 4))) (.m (.v 1) (.m (.s (.m (.m (.v 2) (.v 2)) (.v 3)) (.m (.v 0) (.v 1))) (.v 4)))) (.m (.v 2) (.m (.s (.m (.v 0) (.v 0)) (.m (.m (.v 1) (.v 2)) (.v 3))) (.v 4)))) (.k 0) (by kernel_rfl)
theorem rw12 (a0 a1 a2 b0 b1 b2 xi:α):((((a0*b0)+(xi*((a1*b2)+(a2*b1))))*((((a0*b0)+(xi*((a1*b2)+(a2*b1))))*((a0*b0)+(xi*((a1*b2)+(a2*b1)))))-(((((a0*b1)+(a1*b0))+(xi*(a2*b2)))*(((a0*b2)+(a1*b1))+(a2*b0)))*xi)))+((((((a0*b2)+(a1*b1))+(a2*b0))*((((((a0*b2)+(a1*b1))+(a2*b0))*(((a0*b2)+(a1*b1))+(a2*b0)))*xi)-(((a0*b0)+(xi*((a1*b2)+(a2*b1))))*(((a0*b1)+(a1*b0))+(xi*(a2*b2))))))+((((a0*b1)+(a1*b0))+(xi*(a2*b2)))*(((((a0*b1)+(a1*b0))+(xi*(a2*b2)))*(((a0*b1)+(a1*b0))+(xi*(a2*b2))))-(((a0*b0)+(xi*((a1*b2)+(a2*b1))))*(((a0*b2)+(a1*b1))+(a2*b0))))))*xi))=(((a0*((a0*a0)-((a1*a2)*xi)))+(((a2*(((a2*a2)*xi)-(a0*a1)))+(a1*((a1*a1)-(a0*a2))))*xi))*((b0*((b0*b0)-((b1*b2)*xi)))+(((b2*(((b2*b2)*xi)-(b0*b1)))+(b1*((b1*b1)-(b0*b2))))*xi))):=ring [a0,a1,a2,b0,b1,b2,xi] (.a (.m (.a (.m (.v 0) (.v 3)) (.m (.v 6) (.a (.m (.v 1) (.v 5)) (.m (.v 2) (.v 4))))) (.s (.m (.a (.m (.v 0) (.v 3)) (.m (.v 6) (.a (.m (.v 1) (.v 5)) (.m (.v 2) (.v 4))))) (.a (.m (.v 0) (.v 3)) (.m (.v 6) (.a (.m (.v 1) (.v 5)) (.m (.v 2) (.v 4)))))) (.m (.m (.a (.a (.m (.v 0) (.v 4)) (.m (.v 1) (.v 3))) (.m (.v 6) (.m (.v 2) (.v 5)))) (.a (.a (.m (.v 0) (.v 5)) (.m (.v 1) (.v 4))) (.m (.v 2) (.v 3)))) (.v 6)))) (.m (.a (.m (.a (.a (.m (.v 0) (.v 5)) (.m (.v 1) (.v 4))) (.m (.v 2) (.v 3))) (.s (.m (.m (.a (.a (.m (.v 0) (.v 5)) (.m (.v 1) (.v 4))) (.m (.v 2) (.v 3))) (.a (.a (.m (.v 0) (.v 5)) (.m (.v 1) (.v 4))) (.m (.v 2) (.v 3)))) (.v 6)) (.m (.a (.m (.v 0) (.v 3)) (.m (.v 6) (.a (.m (.v 1) (.v 5)) (.m (.v 2) (.v 4))))) (.a (.a (.m (.v 0) (.v 4)) (.m (.v 1) (.v 3))) (.m (.v 6) (.m (.v 2) (.v 5))))))) (.m (.a (.a (.m (.v 0) (.v 4)) (.m (.v 1) (.v 3))) (.m (.v 6) (.m (.v 2) (.v 5)))) (.s (.m (.a (.a (.m (.v 0) (.v 4)) (.m (.v 1) (.v 3))) (.m (.v 6) (.m (.v 2) (.v 5)))) (.a (.a (.m (.v 0) (.v 4)) (.m (.v 1) (.v 3))) (.m (.v 6) (.m (.v 2) (.v 5))))) (.m (.a (.m (.v 0) (.v 3)) (.m (.v 6) (.a (.m (.v 1) (.v 5)) (.m (.v 2) (.v 4))))) (.a (.a (.m (.v 0) (.v 5)) (.m (.v 1) (.v 4))) (.m (.v 2) (.v 3))))))) (.v 6))) (.m (.a (.m (.v 0) (.s (.m (.v 0) (.v 0)) (.m (.m (.v 1) (.v 2)) (.v 6)))) (.m (.a (.m (.v 2) (.s (.m (.m (.v 2) (.v 2)) (.v 6)) (.m (.v 0) (.v 1)))) (.m (.v 1) (.s (.m (.v 1) (.v 1)) (.m (.v 0) (.v 2))))) (.v 6))) (.a (.m (.v 3) (.s (.m (.v 3) (.v 3)) (.m (.m (.v 4) (.v 5)) (.v 6)))) (.m (.a (.m (.v 5) (.s (.m (.m (.v 5) (.v 5)) (.v 6)) (.m (.v 3) (.v 4)))) (.m (.v 4) (.s (.m (.v 4) (.v 4)) (.m (.v 3) (.v 5))))) (.v 6)))) (by kernel_rfl)
end
theorem fneg_add (a z:F) (hz:z=0):-a+a=z:=by grind
theorem fsub_eq (a b:F):a-b=a+-b:=by grind
instance : CR F where
 add_assoc:=fun a b c=>by grind
 add_comm:=fun a b=>by grind
 zero_add:=fun a=>by grind
 neg_add:=fun a=>fneg_add a 0 rfl
 sub_eq:=fsub_eq
 mul_assoc:=fun a b c=>by grind
 mul_comm:=fun a b=>by grind
 one_mul:=fun a=>by grind
 add_mul:=fun a b c=>by grind
instance : CR F2 where
 add_assoc:=F2.add_assoc'
 add_comm:=F2.add_comm'
 zero_add:=F2.zero_add'
 neg_add:=fun a=>F2.ext' (fneg_add _ 0 rfl) (fneg_add _ 0 rfl)
 sub_eq:=fun a b=>F2.ext' (fsub_eq _ _) (fsub_eq _ _)
 mul_assoc:=fun a b c=>(F2.mul_assoc' a b c).symm
 mul_comm:=F2.mul_comm'
 one_mul:=F2.one_mul'
 add_mul:=F2.add_mul'
def xi:F2:=⟨1,1⟩
structure F6 where
 c0:F2
 c1:F2
 c2:F2
 deriving DecidableEq
namespace F6
theorem ext' {x y:F6} (h0:x.c0=y.c0) (h1:x.c1=y.c1) (h2:x.c2=y.c2):x=y:=by cases x;cases y;simp_all
instance : Add F6 := ⟨fun x y => ⟨x.c0 + y.c0, x.c1 + y.c1, x.c2 + y.c2⟩⟩
instance : Sub F6 := ⟨fun x y => ⟨x.c0 - y.c0, x.c1 - y.c1, x.c2 - y.c2⟩⟩
instance : Neg F6 := ⟨fun x => ⟨-x.c0, -x.c1, -x.c2⟩⟩
instance : Mul F6 := ⟨fun x y => ⟨x.c0 * y.c0 + xi * (x.c1 * y.c2 + x.c2 * y.c1), x.c0 * y.c1 + x.c1 * y.c0 + xi * (x.c2 * y.c2), x.c0 * y.c2 + x.c1 * y.c1 + x.c2 * y.c0⟩⟩
instance : OfNat F6 0 := ⟨⟨0, 0, 0⟩⟩
instance : OfNat F6 1 := ⟨⟨1, 0, 0⟩⟩
def up (x:F6):F6:=⟨x.c2*xi,x.c0,x.c1⟩
def a0 (x:F6):F2:=x.c0*x.c0-x.c1*x.c2*xi
def a1 (x:F6):F2:=x.c2*x.c2*xi-x.c0*x.c1
def a2 (x:F6):F2:=x.c1*x.c1-x.c0*x.c2
def norm (x:F6):F2:=x.c0*x.a0+(x.c2*x.a1+x.c1*x.a2)*xi
noncomputable def inv (x:F6):F6:=⟨x.a0*x.norm.inv,x.a1*x.norm.inv,x.a2*x.norm.inv⟩
theorem o0 (a b c k:F2):1*a+k*(0*c+0*b)=a:=by rw [CR.one_mul,zero_mul,zero_mul,add_zero,mul_zero,add_zero]
theorem o1 (a b c k:F2):1*b+0*a+k*(0*c)=b:=by rw [CR.one_mul,zero_mul,zero_mul,mul_zero,add_zero,add_zero]
theorem o1' (a b c:F2):1*c+0*b+0*a=c:=by rw [CR.one_mul,zero_mul,zero_mul,add_zero,add_zero]
instance : CR F6 where
 add_assoc:=fun a b c=>ext' (CR.add_assoc _ _ _) (CR.add_assoc _ _ _) (CR.add_assoc _ _ _)
 add_comm:=fun a b=>ext' (CR.add_comm _ _) (CR.add_comm _ _) (CR.add_comm _ _)
 zero_add:=fun a=>ext' (CR.zero_add _) (CR.zero_add _) (CR.zero_add _)
 neg_add:=fun a=>ext' (CR.neg_add _) (CR.neg_add _) (CR.neg_add _)
 sub_eq:=fun a b=>ext' (CR.sub_eq _ _) (CR.sub_eq _ _) (CR.sub_eq _ _)
 mul_assoc:=fun a b c=>ext' (rw0 (a.c0) (a.c1) (a.c2) (b.c0) (b.c1) (b.c2) (c.c0) (c.c1) (c.c2) (xi)) (rw1 (a.c0) (a.c1) (a.c2) (b.c0) (b.c1) (b.c2) (c.c0) (c.c1) (c.c2) (xi)) (rw2 (a.c0) (a.c1) (a.c2) (b.c0) (b.c1) (b.c2) (c.c0) (c.c1) (c.c2) (xi))
 mul_comm:=fun a b=>have c:F6:=0;ext' (rw3 (a.c0) (a.c1) (a.c2) (b.c0) (b.c1) (b.c2) (xi)) (rw4 (a.c0) (a.c1) (a.c2) (b.c0) (b.c1) (b.c2) (xi)) (rw5 (a.c0) (a.c1) (a.c2) (b.c0) (b.c1) (b.c2))
 one_mul:=fun a=>ext' (o0 _ _ _ _) (o1 _ _ _ _) (o1' _ _ _)
 add_mul:=fun a b c=>ext' (rw6 (a.c0) (a.c1) (a.c2) (b.c0) (b.c1) (b.c2) (c.c0) (c.c1) (c.c2) (xi)) (rw7 (a.c0) (a.c1) (a.c2) (b.c0) (b.c1) (b.c2) (c.c0) (c.c1) (c.c2) (xi)) (rw8 (a.c0) (a.c1) (a.c2) (b.c0) (b.c1) (b.c2) (c.c0) (c.c1) (c.c2))
theorem u0 (a b c k:F2):c*k=a*0+k*(b*0+c*1):=by rw [mul_zero,mul_zero,CR.zero_add,CR.zero_add,mul_one,CR.mul_comm]
theorem u1 (a b c k:F2):a=a*1+b*0+k*(c*0):=by rw [mul_one,mul_zero,mul_zero,mul_zero,add_zero,add_zero]
theorem u2 (a b c:F2):b=a*0+b*1+c*0:=by rw [mul_one,mul_zero,mul_zero,CR.zero_add,add_zero]
theorem mul_inv (a:F6) (h:a.norm*a.norm.inv=1):a*a.inv=1 :=
 ext' ((rw9 (a.c0) (a.c1) (a.c2) (xi) (a.norm.inv)).trans h) ((rw10 (a.c0) (a.c1) (a.c2) (xi) (a.norm.inv)).trans rfl) ((rw11 (a.c0) (a.c1) (a.c2) (xi) (a.norm.inv)).trans rfl)
theorem up_v (a:F6):a.up=a*⟨0,1,0⟩:=ext' (u0 _ _ _ _) (u1 _ _ _ _) (u2 _ _ _)
theorem norm_mul (a b:F6):(a*b).norm=a.norm*b.norm:=rw12 (a.c0) (a.c1) (a.c2) (b.c0) (b.c1) (b.c2) (xi)
end F6
end Go.Proofs.YthnfgmhehfombaaGreatDoor.fpn
/- Threes of pairs and twos of those: their fields. No program is named here. -/
namespace Go.Proofs.YthnfgmhehfombaaGreatDoor.fpn
open Rn
section
variable {α:Type} [Add α] [Mul α] [Neg α] [Sub α] [OfNat α 0] [OfNat α 1] [CR α]
theorem rx0 (a b x:α):((a*((a*a)-((b*0)*x)))+(((0*(((0*0)*x)-(a*b)))+(b*((b*b)-(a*0))))*x))=(((a*a)*a)+(((b*b)*b)*x)):=ring [a,b,x] (.a (.m (.v 0) (.s (.m (.v 0) (.v 0)) (.m (.m (.v 1) (.k 0)) (.v 2)))) (.m (.a (.m (.k 0) (.s (.m (.m (.k 0) (.k 0)) (.v 2)) (.m (.v 0) (.v 1)))) (.m (.v 1) (.s (.m (.v 1) (.v 1)) (.m (.v 0) (.k 0))))) (.v 2))) (.a (.m (.m (.v 0) (.v 0)) (.v 0)) (.m (.m (.m (.v 1) (.v 1)) (.v 1)) (.v 2))) (by kernel_rfl)
theorem rx1 (a b i x:α):((((-(a*i))*(-(a*i)))*(-(a*i)))+(((i*i)*i)*(((a*a)*a)+(((b*b)*b)*x))))=(x*(((b*i)*(b*i))*(b*i))):=ring [a,b,i,x] (.a (.m (.m (.n (.m (.v 0) (.v 2))) (.n (.m (.v 0) (.v 2)))) (.n (.m (.v 0) (.v 2)))) (.m (.m (.m (.v 2) (.v 2)) (.v 2)) (.a (.m (.m (.v 0) (.v 0)) (.v 0)) (.m (.m (.m (.v 1) (.v 1)) (.v 1)) (.v 3))))) (.m (.v 3) (.m (.m (.m (.v 1) (.v 2)) (.m (.v 1) (.v 2))) (.m (.v 1) (.v 2)))) (by kernel_rfl)
theorem rx2 (a b c i x:α):((a*(-(b*i)))+(x*((b*0)+(c*1))))=((x*c)-(a*(b*i))):=ring [a,b,c,i,x] (.a (.m (.v 0) (.n (.m (.v 1) (.v 3)))) (.m (.v 4) (.a (.m (.v 1) (.k 0)) (.m (.v 2) .o)))) (.s (.m (.v 4) (.v 2)) (.m (.v 0) (.m (.v 1) (.v 3)))) (by kernel_rfl)
theorem rx3 (a b c i x:α):(((a*1)+(b*(-(b*i))))+(x*(c*0)))=(a-(b*(b*i))):=ring [a,b,c,i,x] (.a (.a (.m (.v 0) .o) (.m (.v 1) (.n (.m (.v 1) (.v 3))))) (.m (.v 4) (.m (.v 2) (.k 0)))) (.s (.v 0) (.m (.v 1) (.m (.v 1) (.v 3)))) (by kernel_rfl)
theorem rx4 (a b c i:α):((((a*0)+(b*1))+(c*(-(b*i))))+((c*i)*b))=b:=ring [a,b,c,i] (.a (.a (.a (.m (.v 0) (.k 0)) (.m (.v 1) .o)) (.m (.v 2) (.n (.m (.v 1) (.v 3))))) (.m (.m (.v 2) (.v 3)) (.v 1))) (.v 1) (by kernel_rfl)
theorem rx5 (a b c i x:α):(x*(c*i))=(((((x*c)-(a*(b*i)))*i)+(((a-(b*(b*i)))*(b*i))*i))+(((b*i)*(b*i))*(b*i))):=ring [a,b,c,i,x] (.m (.v 4) (.m (.v 2) (.v 3))) (.a (.a (.m (.s (.m (.v 4) (.v 2)) (.m (.v 0) (.m (.v 1) (.v 3)))) (.v 3)) (.m (.m (.s (.v 0) (.m (.v 1) (.m (.v 1) (.v 3)))) (.m (.v 1) (.v 3))) (.v 3))) (.m (.m (.m (.v 1) (.v 3)) (.m (.v 1) (.v 3))) (.m (.v 1) (.v 3)))) (by kernel_rfl)
theorem rx6 (a0 a1 b0 b1 c0 c1 v:α):((((a0*b0)+(v*(a1*b1)))*c0)+(v*(((a0*b1)+(a1*b0))*c1)))=((a0*((b0*c0)+(v*(b1*c1))))+(v*(a1*((b0*c1)+(b1*c0))))):=ring [a0,a1,b0,b1,c0,c1,v] (.a (.m (.a (.m (.v 0) (.v 2)) (.m (.v 6) (.m (.v 1) (.v 3)))) (.v 4)) (.m (.v 6) (.m (.a (.m (.v 0) (.v 3)) (.m (.v 1) (.v 2))) (.v 5)))) (.a (.m (.v 0) (.a (.m (.v 2) (.v 4)) (.m (.v 6) (.m (.v 3) (.v 5))))) (.m (.v 6) (.m (.v 1) (.a (.m (.v 2) (.v 5)) (.m (.v 3) (.v 4)))))) (by kernel_rfl)
theorem rx7 (a0 a1 b0 b1 c0 c1 v:α):((((a0*b0)+(v*(a1*b1)))*c1)+(((a0*b1)+(a1*b0))*c0))=((a0*((b0*c1)+(b1*c0)))+(a1*((b0*c0)+(v*(b1*c1))))):=ring [a0,a1,b0,b1,c0,c1,v] (.a (.m (.a (.m (.v 0) (.v 2)) (.m (.v 6) (.m (.v 1) (.v 3)))) (.v 5)) (.m (.a (.m (.v 0) (.v 3)) (.m (.v 1) (.v 2))) (.v 4))) (.a (.m (.v 0) (.a (.m (.v 2) (.v 5)) (.m (.v 3) (.v 4)))) (.m (.v 1) (.a (.m (.v 2) (.v 4)) (.m (.v 6) (.m (.v 3) (.v 5)))))) (by kernel_rfl)
theorem rx8 (a0 a1 b0 b1 v:α):((a0*b0)+(v*(a1*b1)))=((b0*a0)+(v*(b1*a1))):=ring [a0,a1,b0,b1,v] (.a (.m (.v 0) (.v 2)) (.m (.v 4) (.m (.v 1) (.v 3)))) (.a (.m (.v 2) (.v 0)) (.m (.v 4) (.m (.v 3) (.v 1)))) (by kernel_rfl)
theorem rx9 (a0 a1 b0 b1:α):((a0*b1)+(a1*b0))=((b0*a1)+(b1*a0)):=ring [a0,a1,b0,b1] (.a (.m (.v 0) (.v 3)) (.m (.v 1) (.v 2))) (.a (.m (.v 2) (.v 1)) (.m (.v 3) (.v 0))) (by kernel_rfl)
theorem rx10 (a0 a1 b0 b1 c0 c1 v:α):(((a0+b0)*c0)+(v*((a1+b1)*c1)))=(((a0*c0)+(v*(a1*c1)))+((b0*c0)+(v*(b1*c1)))):=ring [a0,a1,b0,b1,c0,c1,v] (.a (.m (.a (.v 0) (.v 2)) (.v 4)) (.m (.v 6) (.m (.a (.v 1) (.v 3)) (.v 5)))) (.a (.a (.m (.v 0) (.v 4)) (.m (.v 6) (.m (.v 1) (.v 5)))) (.a (.m (.v 2) (.v 4)) (.m (.v 6) (.m (.v 3) (.v 5))))) (by kernel_rfl)
theorem rx11 (a0 a1 b0 b1 c0 c1:α):(((a0+b0)*c1)+((a1+b1)*c0))=(((a0*c1)+(a1*c0))+((b0*c1)+(b1*c0))):=ring [a0,a1,b0,b1,c0,c1] (.a (.m (.a (.v 0) (.v 2)) (.v 5)) (.m (.a (.v 1) (.v 3)) (.v 4))) (.a (.a (.m (.v 0) (.v 5)) (.m (.v 1) (.v 4))) (.a (.m (.v 2) (.v 5)) (.m (.v 3) (.v 4)))) (by kernel_rfl)
theorem rx12 (a0 a1 b0 b1 v:α):((a0*b0)+(v*(a1*b1)))=((a0*b0)+(v*((-a1)*(-b1)))):=ring [a0,a1,b0,b1,v] (.a (.m (.v 0) (.v 2)) (.m (.v 4) (.m (.v 1) (.v 3)))) (.a (.m (.v 0) (.v 2)) (.m (.v 4) (.m (.n (.v 1)) (.n (.v 3))))) (by kernel_rfl)
theorem rx13 (a0 a1 b0 b1:α):(-((a0*b1)+(a1*b0)))=((a0*(-b1))+((-a1)*b0)):=ring [a0,a1,b0,b1] (.n (.a (.m (.v 0) (.v 3)) (.m (.v 1) (.v 2)))) (.a (.m (.v 0) (.n (.v 3))) (.m (.n (.v 1)) (.v 2))) (by kernel_rfl)
theorem rx14 (a0 a1 i v:α):((a0*(a0*i))+(v*(a1*(-(a1*i)))))=(((a0*a0)-(v*(a1*a1)))*i):=ring [a0,a1,i,v] (.a (.m (.v 0) (.m (.v 0) (.v 2))) (.m (.v 3) (.m (.v 1) (.n (.m (.v 1) (.v 2)))))) (.m (.s (.m (.v 0) (.v 0)) (.m (.v 3) (.m (.v 1) (.v 1)))) (.v 2)) (by kernel_rfl)
theorem rx15 (a0 a1 i:α):((a0*(-(a1*i)))+(a1*(a0*i)))=0:=ring [a0,a1,i] (.a (.m (.v 0) (.n (.m (.v 1) (.v 2)))) (.m (.v 1) (.m (.v 0) (.v 2)))) (.k 0) (by kernel_rfl)
theorem rx16 (a b i v:α):((a*i)*(a*i))=((((a*a)-(v*(b*b)))*(i*i))+(v*((b*i)*(b*i)))):=ring [a,b,i,v] (.m (.m (.v 0) (.v 2)) (.m (.v 0) (.v 2))) (.a (.m (.s (.m (.v 0) (.v 0)) (.m (.v 3) (.m (.v 1) (.v 1)))) (.m (.v 2) (.v 2))) (.m (.v 3) (.m (.m (.v 1) (.v 2)) (.m (.v 1) (.v 2))))) (by kernel_rfl)
end
theorem two_cube (c:F) (h:c*c*c=2):False:=by
 have h0:c≠0:=fun e=>by
  subst e
  exact absurd (congrArg Fin.val h) (by decide +kernel)
 have h1:=fermatF h0
 rw [show RN-1=3*((RN-1) / 3) by decide +kernel,← fpow_pow,show fpow c 3=2 by rw [show (3:Nat)=2+1 from rfl,fpow_add,fpow_one,fpow_two];exact h] at h1
 have h2:=congrArg Fin.val h1
 rw [fpow_val,show ((2:F).val)=2 by decide +kernel,← pm_eq RN 2 381 _ (by decide +kernel)] at h2
 exact absurd h2 (by decide +kernel)
theorem two_square (c:F) (h:c*c=2):False:=by
 have h0:c≠0:=fun e=>by
  subst e
  exact absurd (congrArg Fin.val h) (by decide +kernel)
 have h1:=fermatF h0
 rw [show RN-1=2*((RN-1) / 2) by decide +kernel,← fpow_pow,show fpow c 2=2 by rw [fpow_two];exact h] at h1
 have h2:=congrArg Fin.val h1
 rw [fpow_val,show ((2:F).val)=2 by decide +kernel,← pm_eq RN 2 381 _ (by decide +kernel)] at h2
 exact absurd h2 (by decide +kernel)
theorem xi_norm:xi.norm=2:=by kernel_rfl
theorem xi_cube (r:F2) (h:r*r*r=xi):False:=two_cube r.norm (by rw [← F2.norm_mul,← F2.norm_mul,h,xi_norm])
theorem xi_square (r:F2) (h:r*r=xi):False:=two_square r.norm (by rw [← F2.norm_mul,h,xi_norm])
theorem F2.one_ne:(1:F2)≠0:=fun h=>absurd (congrArg (fun x:F2=>x.c0.val) h) (by decide +kernel)
namespace F6
theorem norm_lin (a b:F2):norm ⟨a,b,0⟩=a*a*a+b*b*b*xi:=rx0 (a) (b) (xi)
theorem lin_zero {a b:F2} (h:norm ⟨a,b,0⟩=0):a=0∧b=0:=by
 rw [norm_lin] at h
 by_cases hb:b=0
 ·subst hb
  rw [zero_mul,zero_mul,zero_mul,add_zero] at h
  refine ⟨?_,rfl⟩
  rcases F2.no_zero' h with h | h
  ·rcases F2.no_zero' h with h | h<;>exact h
  ·exact h
 ·exfalso
  have hi:=F2.inv_mul hb
  have key:-(a*b.inv)*-(a*b.inv)*-(a*b.inv)+b.inv*b.inv*b.inv*(a*a*a+b*b*b*xi)=xi*((b*b.inv)*(b*b.inv)*(b*b.inv)):=(rx1 (a) (b) (b.inv) (xi))
  rw [h,hi,mul_zero,add_zero,mul_one,mul_one,mul_one] at key
  exact xi_cube _ key
theorem norm_zero {x:F6} (h:x.norm=0):x=0:=by
 by_cases h2:x.c2=0
 ·obtain ⟨a,b,c⟩:=x
  simp only at h2
  subst h2
  obtain ⟨rfl,rfl⟩:=lin_zero h
  rfl
 ·exfalso
  have hi:=F2.inv_mul h2
  have hn:(x*⟨-(x.c1*x.c2.inv),1,0⟩).norm=0:=by rw [norm_mul,h,zero_mul]
  have e:x*⟨-(x.c1*x.c2.inv),1,0⟩=⟨xi*x.c2-x.c0*(x.c1*x.c2.inv),x.c0-x.c1*(x.c1*x.c2.inv),0⟩:=by
   refine ext' (rx2 (x.c0) (x.c1) (x.c2) (x.c2.inv) (xi)) (rx3 (x.c0) (x.c1) (x.c2) (x.c2.inv) (xi)) ?_
   have k:x.c0*0+x.c1*1+x.c2*-(x.c1*x.c2.inv)+(x.c2*x.c2.inv)*x.c1=x.c1:=(rx4 (x.c0) (x.c1) (x.c2) (x.c2.inv))
   rw [hi,CR.one_mul] at k
   have k2:x.c1+(x.c0*0+x.c1*1+x.c2*-(x.c1*x.c2.inv))=x.c1+0:=by rw [CR.add_comm,k,add_zero]
   exact cancel k2
  rw [e] at hn
  obtain ⟨e0,e1⟩:=lin_zero hn
  have key:xi*(x.c2*x.c2.inv)=(xi*x.c2-x.c0*(x.c1*x.c2.inv))*x.c2.inv+(x.c0-x.c1*(x.c1*x.c2.inv))*(x.c1*x.c2.inv)*x.c2.inv+(x.c1*x.c2.inv)*(x.c1*x.c2.inv)*(x.c1*x.c2.inv):=(rx5 (x.c0) (x.c1) (x.c2) (x.c2.inv) (xi))
  rw [hi,e0,e1,mul_one,zero_mul,zero_mul,zero_mul,CR.zero_add,CR.zero_add] at key
  exact xi_cube _ key.symm
theorem norm_ne {x:F6} (h:x≠0):x.norm≠0:=fun e=>h (norm_zero e)
theorem inv_mul {x:F6} (h:x≠0):x*x.inv=1:=mul_inv x (F2.inv_mul (norm_ne h))
theorem no_zero {x y:F6} (h:x*y=0):x=0∨y=0:=by
 by_cases hx:x=0
 ·exact .inl hx
 ·right
  have hi:=inv_mul hx
  have e:(x*x.inv)*y=x.inv*(x*y):=by rw [CR.mul_comm x,CR.mul_assoc]
  rw [hi,h,mul_zero,CR.one_mul] at e
  exact e
def vv:F6:=⟨0,1,0⟩
theorem vv_norm:vv.norm=xi:=by kernel_rfl
theorem vv_square (r:F6) (h:r*r=vv):False:=xi_square r.norm (by rw [← norm_mul,h,vv_norm])
theorem up_vv (x:F6):x.up=vv*x:=(up_v x).trans (CR.mul_comm _ _)
end F6
structure F12 where
 c0:F6
 c1:F6
 deriving DecidableEq
namespace F12
theorem ext' {x y:F12} (h0:x.c0=y.c0) (h1:x.c1=y.c1):x=y:=by cases x;cases y;simp_all
instance : Add F12 := ⟨fun x y => ⟨x.c0 + y.c0, x.c1 + y.c1⟩⟩
instance : Sub F12 := ⟨fun x y => ⟨x.c0 - y.c0, x.c1 - y.c1⟩⟩
instance : Neg F12 := ⟨fun x => ⟨-x.c0, -x.c1⟩⟩
instance : Mul F12 := ⟨fun x y => ⟨x.c0 * y.c0 + (x.c1 * y.c1).up, x.c0 * y.c1 + x.c1 * y.c0⟩⟩
instance : OfNat F12 0 := ⟨⟨0, 0⟩⟩
instance : OfNat F12 1 := ⟨⟨1, 0⟩⟩
def conj (x:F12):F12:=⟨x.c0,-x.c1⟩
def norm (x:F12):F6:=x.c0*x.c0-(x.c1*x.c1).up
noncomputable def inv (x:F12):F12:=⟨x.c0*x.norm.inv,-(x.c1*x.norm.inv)⟩
theorem mul_eq (x y:F12):x*y=⟨x.c0*y.c0+F6.vv*(x.c1*y.c1),x.c0*y.c1+x.c1*y.c0⟩:=ext' (by show x.c0*y.c0+(x.c1*y.c1).up=_;rw [F6.up_vv]) rfl
theorem m0 (a b k:F6):1*a+k*(0*b)=a:=by rw [CR.one_mul,zero_mul,mul_zero,add_zero]
theorem m1 (a b:F6):1*b+0*a=b:=by rw [CR.one_mul,zero_mul,add_zero]
instance : CR F12 where
 add_assoc:=fun a b c=>ext' (CR.add_assoc _ _ _) (CR.add_assoc _ _ _)
 add_comm:=fun a b=>ext' (CR.add_comm _ _) (CR.add_comm _ _)
 zero_add:=fun a=>ext' (CR.zero_add _) (CR.zero_add _)
 neg_add:=fun a=>ext' (CR.neg_add _) (CR.neg_add _)
 sub_eq:=fun a b=>ext' (CR.sub_eq _ _) (CR.sub_eq _ _)
 mul_assoc:=fun a b c=>by rw [mul_eq,mul_eq,mul_eq,mul_eq];exact ext' (rx6 (a.c0) (a.c1) (b.c0) (b.c1) (c.c0) (c.c1) (F6.vv)) (rx7 (a.c0) (a.c1) (b.c0) (b.c1) (c.c0) (c.c1) (F6.vv))
 mul_comm:=fun a b=>have c:F12:=0;by rw [mul_eq,mul_eq];exact ext' (rx8 (a.c0) (a.c1) (b.c0) (b.c1) (F6.vv)) (rx9 (a.c0) (a.c1) (b.c0) (b.c1))
 one_mul:=fun a=>by rw [mul_eq];exact ext' (m0 _ _ _) (m1 _ _)
 add_mul:=fun a b c=>by rw [mul_eq,mul_eq,mul_eq];exact ext' (rx10 (a.c0) (a.c1) (b.c0) (b.c1) (c.c0) (c.c1) (F6.vv)) (rx11 (a.c0) (a.c1) (b.c0) (b.c1) (c.c0) (c.c1))
theorem conj_mul (a b:F12):(a*b).conj=a.conj*b.conj:=by
 rw [mul_eq,mul_eq]
 exact ext' (rx12 (a.c0) (a.c1) (b.c0) (b.c1) (F6.vv)) (rx13 (a.c0) (a.c1) (b.c0) (b.c1))
theorem norm_eq (x:F12):x.norm=x.c0*x.c0-F6.vv*(x.c1*x.c1):=by unfold norm;rw [F6.up_vv]
theorem mul_inv (a:F12) (h:a.norm*a.norm.inv=1):a*a.inv=1:=by
 have e:=norm_eq a
 generalize ha:a.norm.inv=i at h
 rw [mul_eq]
 have hi:a.inv=⟨a.c0*i,-(a.c1*i)⟩:=by unfold inv;rw [ha]
 rw [hi]
 rw [e] at h
 exact ext' ((rx14 (a.c0) (a.c1) (i) (F6.vv)).trans h) ((rx15 (a.c0) (a.c1) (i)).trans rfl)
theorem norm_zero {x:F12} (h:x.norm=0):x=0:=by
 rw [norm_eq] at h
 by_cases h1:x.c1=0
 ·rw [h1,zero_mul,mul_zero,CR.sub_eq,neg_zero,add_zero] at h
  have h0:x.c0=0:=by rcases F6.no_zero h with h | h<;>exact h
  exact ext' h0 h1
 ·exfalso
  have hi:=F6.inv_mul h1
  generalize x.c1.inv=i at hi
  have key:(x.c0*i)*(x.c0*i)=(x.c0*x.c0-F6.vv*(x.c1*x.c1))*(i*i)+F6.vv*((x.c1*i)*(x.c1*i)):=(rx16 (x.c0) (x.c1) (i) (F6.vv))
  rw [h,hi,zero_mul,CR.zero_add,mul_one,mul_one] at key
  exact F6.vv_square _ key
theorem norm_ne {x:F12} (h:x≠0):x.norm≠0:=fun e=>h (norm_zero e)
theorem inv_mul {x:F12} (h:x≠0):x*x.inv=1:=mul_inv x (F6.inv_mul (norm_ne h))
end F12
end Go.Proofs.YthnfgmhehfombaaGreatDoor.fpn
/- Commutative rings: powers, binomials, the power by the prime; sixes of pairs, what the power by P P does to them. No program is named here. -/
namespace Go.Proofs.YthnfgmhehfombaaGreatDoor.fpn
open Rn
set_option linter.unusedSectionVars false
section
variable {α:Type} [Add α] [Mul α] [Neg α] [Sub α] [OfNat α 0] [OfNat α 1] [CR α]
def npw (x:α):Nat→α
 | 0=>1
 | n+1=>npw x n*x
theorem npw_add (x:α) (m:Nat):∀ n,npw x (m+n)=npw x m*npw x n
 | 0=>(Rn.mul_one _).symm
 | n+1=>by rw [← Nat.add_assoc,npw,npw_add x m n,npw,CR.mul_assoc]
theorem npw_one (x:α):npw x 1=x:=CR.one_mul x
theorem nswap (a b x y:α):a*b*(x*y)=a*x*(b*y):=by
 rw [CR.mul_assoc,Rn.mul_left b x y,← CR.mul_assoc]
theorem npw_mul (x y:α):∀ n,npw (x*y) n=npw x n*npw y n
 | 0=>(Rn.mul_one _).symm
 | n+1=>by rw [npw,npw_mul x y n,npw,npw,nswap]
theorem npw_two (x:α) (n:Nat):npw x (2*n)=npw x n*npw x n:=by rw [Nat.two_mul,npw_add]
theorem npw_exp (x:α) (m:Nat):∀ n,npw x (m*n)=npw (npw x m) n
 | 0=>rfl
 | n+1=>by rw [Nat.mul_succ,npw_add,npw_exp x m n,npw]
theorem npw_zero (n:Nat):npw (0:α) (n+1)=0:=by rw [npw,Rn.mul_zero]
def nsm (n:Nat) (x:α):α:=nc n*x
theorem nsm_add (m n:Nat) (x:α):nsm (m+n) x=nsm m x+nsm n x:=by unfold nsm;rw [nc_add,CR.add_mul]
theorem nsm_mul (n:Nat) (x y:α):nsm n (x*y)=nsm n x*y:=by unfold nsm;rw [CR.mul_assoc]
theorem nsm_one (x:α):nsm 1 x=x:=by
 unfold nsm
 rw [show (nc 1:α)=0+1 from rfl,CR.zero_add,CR.one_mul]
theorem nsm_nil (x:α):nsm 0 x=0:=by
 unfold nsm
 rw [show (nc 0:α)=0 from rfl,Rn.zero_mul]
theorem nsm_zero (hP:(nc RN:α)=0) {n:Nat} (h:RN ∣ n) (x:α):nsm n x=0:=by
 obtain ⟨k,rfl⟩:=h
 unfold nsm
 rw [nc_mul,hP,Rn.zero_mul,Rn.zero_mul]
def nbz (n:Nat) (z:α):Nat→α
 | 0=>0
 | k+1=>nbz n z k+nsm (ch n k) (npw z k)
theorem nbz_succ (n:Nat) (z:α):∀ k,nbz (n+1) z (k+1)=nbz n z (k+1)+nbz n z k*z
 | 0=>by
  show 0+nsm (ch (n+1) 0) (npw z 0)=0+nsm (ch n 0) (npw z 0)+0*z
  rw [ch_zero,ch_zero,Rn.zero_mul,Rn.add_zero]
 | k+1=>by
  have ih:=nbz_succ n z k
  rw [nbz,ih,ch_succ,nsm_add,show nbz n z (k+1+1)=nbz n z (k+1)+nsm (ch n (k+1)) (npw z (k+1)) from rfl]
  have e:nbz n z (k+1)*z=nbz n z k*z+nsm (ch n k) (npw z (k+1)):=by
   rw [show nbz n z (k+1)=nbz n z k+nsm (ch n k) (npw z k) from rfl,CR.add_mul,← nsm_mul]
   rfl
  rw [e]
  generalize nbz n z (k+1)=A
  generalize nbz n z k*z=Bq
  generalize nsm (ch n k) (npw z (k+1))=C
  generalize nsm (ch n (k+1)) (npw z (k+1))=D
  rw [CR.add_assoc,CR.add_assoc,← CR.add_assoc D,CR.add_comm D Bq,← CR.add_assoc Bq,CR.add_assoc Bq D,CR.add_comm D C,CR.add_assoc Bq]
theorem nbz_over (n:Nat) (z:α):nbz n z (n+1+1)=nbz n z (n+1):=by
 rw [nbz,ch_over n (n+1) (by omega),nsm_nil,Rn.add_zero]
theorem nbinom (z:α):∀ n,npw (z+1) n=nbz n z (n+1)
 | 0=>by
  show (1:α)=0+nsm (ch 0 0) 1
  rw [ch_zero,nsm_one,CR.zero_add]
 | n+1=>by
  rw [npw,nbinom z n,nbz_succ n z (n+1),nbz_over,CR.mul_comm,CR.add_mul,CR.one_mul,CR.add_comm,CR.mul_comm z]
theorem nbz_P (hP:(nc RN:α)=0) (z:α):∀ k,k<RN→nbz RN z (k+1)=1
 | 0,_=>by
  show 0+nsm (ch RN 0) 1=1
  rw [ch_zero,nsm_one,CR.zero_add]
 | k+1,h=>by rw [nbz,nbz_P hP z k (by omega),nsm_zero hP (F2.ch_dvd (by omega) h),Rn.add_zero]
theorem ndream (hP:(nc RN:α)=0) (z:α):npw (z+1) RN=1+npw z RN:=by
 have h:=nbz_P hP z (RN-1) (by decide +kernel)
 rw [show RN-1+1=RN by decide +kernel] at h
 rw [nbinom,nbz,h,ch_self,nsm_one]
theorem nfrob (hP:(nc RN:α)=0) (x y:α) (hy:y=0∨∃ i,y*i=1):npw (x+y) RN=npw x RN+npw y RN:=by
 rcases hy with rfl | ⟨i,hi⟩
 ·rw [Rn.add_zero,show RN=(RN-1)+1 by decide +kernel,npw_zero,Rn.add_zero]
 ·have e:y*(x*i+1)=x+y:=by rw [Rn.mul_add,Rn.mul_one,Rn.mul_left,hi,Rn.mul_one]
  have e2:y*(x*i)=x:=by rw [Rn.mul_left,hi,Rn.mul_one]
  rw [← e,npw_mul,ndream hP,Rn.mul_add,Rn.mul_one,← npw_mul,e2,CR.add_comm]
end
namespace F12
def emb (c:F2):F12:=⟨⟨c,0,0⟩,0⟩
theorem emb_add (a b:F2):emb a+emb b=emb (a+b):=ext' (F6.ext' rfl (CR.zero_add _) (CR.zero_add _)) (CR.zero_add _)
theorem emb_mul (a b:F2):emb a*emb b=emb (a*b):=by
 rw [mul_eq]
 refine ext' ?_ ?_
 ·show (⟨a,0,0⟩:F6)*⟨b,0,0⟩+F6.vv*(0*0)=⟨a*b,0,0⟩
  rw [Rn.zero_mul,Rn.mul_zero,Rn.add_zero]
  refine F6.ext' ?_ ?_ ?_
  ·show a*b+xi*(0*0+0*0)=a*b
   rw [Rn.zero_mul,Rn.add_zero,Rn.mul_zero,Rn.add_zero]
  ·show a*0+0*b+xi*(0*0)=0
   rw [Rn.zero_mul,Rn.zero_mul,Rn.mul_zero,Rn.mul_zero,Rn.add_zero,Rn.add_zero]
  ·show a*0+0*0+0*b=0
   rw [Rn.zero_mul,Rn.zero_mul,Rn.mul_zero,Rn.add_zero,Rn.add_zero]
 ·show (⟨a,0,0⟩:F6)*0+0*⟨b,0,0⟩=0
  rw [Rn.zero_mul,Rn.mul_zero,Rn.add_zero]
theorem emb_pw (c:F2):∀ n,npw (emb c) n=emb (F2.pw2 c n)
 | 0=>rfl
 | n+1=>by rw [npw,emb_pw c n,emb_mul];rfl
theorem nc_lift:∀ n,(nc n:F2)=F2.lift (Fin.ofNat RN n)
 | 0=>rfl
 | n+1=>by
  show nc n+1=_
  rw [nc_lift n,F2.ofN_add]
  exact F2.ext' rfl (show (0:F)+0=0 by kernel_rfl)
theorem nc_emb:∀ n,(nc n:F12)=emb (nc n)
 | 0=>rfl
 | n+1=>by
  show nc n+1=emb (nc n+1)
  rw [nc_emb n,← emb_add]
  rfl
theorem nc_P:(nc RN:F12)=0:=by
 rw [nc_emb,nc_lift,F2.ofN_zero (Nat.dvd_refl _)]
 rfl
theorem conj_conj (x:F12):x.conj.conj=x:=ext' rfl (Rn.neg_neg _)
theorem has_inv (y:F12):y=0∨∃ i,y*i=1:=by
 by_cases h:y=0
 ·exact .inl h
 ·exact .inr ⟨_,inv_mul h⟩
noncomputable def fr2 (x:F12):F12:=npw x (RN*RN)
theorem fr2_eq (x:F12):fr2 x=npw (npw x RN) RN:=npw_exp x RN RN
theorem fr2_add (x y:F12):fr2 (x+y)=fr2 x+fr2 y:=by
 rw [fr2_eq,nfrob nc_P x y (has_inv y),nfrob nc_P _ _ (has_inv _),← fr2_eq,← fr2_eq]
theorem fr2_mul (x y:F12):fr2 (x*y)=fr2 x*fr2 y:=npw_mul x y _
theorem fr2_emb (c:F2):fr2 (emb c)=emb c:=by
 unfold fr2
 rw [emb_pw,F2.pw2_mulexp,F2.frob,F2.frob]
 exact congrArg emb (F2.ext' rfl (show - -c.c1=c.c1 by grind))
end F12
end Go.Proofs.YthnfgmhehfombaaGreatDoor.fpn
