/- Texts laid together. -/
import Derived.Test.YtmibajbpimcfnaaGreatDoorGB
import Derived.Test.YtmibajbpimcfnaaGreatDoorGC
import Derived.WalkLawsBesides
import Derived.ProofKit
set_option linter.unusedVariables false
set_option linter.unusedSimpArgs false
set_option maxRecDepth 4000
set_option maxHeartbeats 4000000
/- Numbers of the base field as one type, and the value that each has. -/
namespace Go.Proofs.YtmibajbpimcfnaaGreatDoor.fpn
open Go.RowKit
instance : NeZero RN := ⟨by decide⟩
abbrev F:=Fin RN
def lb (n i:Nat):Int:=((n / 2^(64*i)%2^64:Nat):Int)
theorem pw_two (n:Nat):pw n=((2^(64*n):Nat):Int):=by
 induction n with
 | zero=>rfl
 | succ n ih =>
  rw [pw,ih,show 64*(n+1)=64*n+64 by omega,Nat.pow_add,Int.natCast_mul]
  rfl
theorem lb_rg (n k:Nat):Rg (lb n) k:=fun i _=>by
 unfold lb
 have:n / 2^(64*i)%2^64<2^64:=Nat.mod_lt _ (by decide)
 rw [B64_eq]
 omega
theorem lb_val (n k:Nat):val (lb n) k=((n%2^(64*k):Nat):Int):=by
 induction k with
 | zero=>simp [val,Nat.mod_one]
 | succ k ih =>
  rw [val,ih,pw_two]
  unfold lb
  rw [← Int.natCast_mul,← Int.natCast_add,show 64*(k+1)=64*k+64 by omega,Nat.pow_add,Nat.mod_mul]
  rw [Nat.mul_comm (2^(64*k))]
theorem RN_lt:RN<2^(64*6):=by decide +kernel
theorem lbF (a:F):val (lb a.val) 6=(a.val:Int):=by
 rw [lb_val,Nat.mod_eq_of_lt (Nat.lt_trans a.isLt RN_lt)]
def FC (a:F):List Value:=[.int .u64 (lb a.val 0),.int .u64 (lb a.val 1),.int .u64 (lb a.val 2),.int .u64 (lb a.val 3),.int .u64 (lb a.val 4),.int .u64 (lb a.val 5)]
def FV (a:F):Value:=.agg (FC a).toArray
theorem FV_agg (a:F):FV a=.agg #[.int .u64 (lb a.val 0),.int .u64 (lb a.val 1),.int .u64 (lb a.val 2),.int .u64 (lb a.val 3),.int .u64 (lb a.val 4),.int .u64 (lb a.val 5)]:=rfl
theorem FC_len (a:F):(FC a).length=6:=rfl
theorem agg_of {h:Nat→Int} (rh:Rg h 6) {c:F} (hc:val h 6=(c.val:Int)):Value.agg #[.int .u64 (h 0),.int .u64 (h 1),.int .u64 (h 2),.int .u64 (h 3),.int .u64 (h 4),.int .u64 (h 5)]=FV c:=by
 have e:=digits rh (lb_rg c.val 6) (by rw [hc,lbF])
 rw [FV_agg,e 0 (by decide),e 1 (by decide),e 2 (by decide),e 3 (by decide),e 4 (by decide),e 5 (by decide)]
theorem lt_RI (a:F):val (lb a.val) 6<RI:=by rw [lbF,RI_RN];have:=a.isLt;omega
theorem val_add (a b:F):(((a+b:F).val:Nat):Int)=((a.val:Int)+b.val)%RI:=by
 rw [Fin.val_add,RI_RN,Int.natCast_emod,Int.natCast_add]
theorem val_mul (a b:F):(((a*b:F).val:Nat):Int)=((a.val:Int)*b.val)%RI:=by
 rw [Fin.val_mul,RI_RN,Int.natCast_emod,Int.natCast_mul]
theorem val_sub (a b:F):(((a-b:F).val:Nat):Int)=((a.val:Int)-b.val)%RI:=by
 have hb:=b.isLt
 rw [Fin.val_sub,RI_RN,Int.natCast_emod,Int.natCast_add,Int.natCast_sub (Nat.le_of_lt hb),show (RN:Int)-b.val+a.val=(a.val-b.val:Int)+RN by omega,Int.add_emod_right]
theorem val_neg (a:F):(((-a:F).val:Nat):Int)=(0-(a.val:Int))%RI:=by
 have:=val_sub 0 a
 rw [show (0:F)-a=-a by grind] at this
 rw [this];rfl
noncomputable def finv (a:F):F:=Classical.choose (⟨Fin.ofNat RN (a.val^(RN-2)),rfl⟩:∃ b:F,b=Fin.ofNat RN (a.val^(RN-2)))
theorem finv_eq (a:F):finv a=Fin.ofNat RN (a.val^(RN-2)):=Classical.choose_spec (⟨Fin.ofNat RN (a.val^(RN-2)),rfl⟩:∃ b:F,b=Fin.ofNat RN (a.val^(RN-2)))
theorem val_finv (a:F):((finv a).val:Int)=(a.val:Int)^(RN-2)%RI:=by
 rw [finv_eq,RI_RN,← cast_pow_mod];rfl
noncomputable def rt (a:F):F:=Classical.choose (⟨Fin.ofNat RN (a.val^SE),rfl⟩:∃ b:F,b=Fin.ofNat RN (a.val^SE))
theorem rt_eq (a:F):rt a=Fin.ofNat RN (a.val^SE):=Classical.choose_spec (⟨Fin.ofNat RN (a.val^SE),rfl⟩:∃ b:F,b=Fin.ofNat RN (a.val^SE))
theorem val_rt (a:F):((rt a).val:Int)=sq a.val:=by
 unfold sq
 rw [rt_eq,RI_RN,← cast_pow_mod];rfl
def great (a:F):Bool:=decide (RN / 2<a.val)
noncomputable def isq (a:F):Bool:=decide (rt a*rt a=a)
noncomputable def root (a:F):F:=if isq a=true then (if great (rt a)=true then -rt a else rt a) else 0
theorem ext_int {a b:F} (h:(a.val:Int)=b.val):a=b:=Fin.ext (by omega)
theorem finv_mul {a : F} (h : a ≠ 0) : a * finv a = 1 := by
  refine ext_int ?_
  have h0 : (a.val : Int) ≠ 0 := fun e => h (Fin.ext (by have : a.val = 0 := by omega
                                                         rw [this]; rfl))
  rw [val_mul, val_finv, invI (by omega) h0 (by rw [RI_RN]; have := a.isLt; omega)]
  rfl
theorem great_int (a:F):decide (RI / 2<(a.val:Int))=great a:=by
 unfold great
 rw [RI_RN]
 congr 1
 refine propext ⟨fun h=>?_,fun h=>?_⟩<;>omega
theorem isq_int (a:F):(sq a.val*sq a.val%RI=a.val)↔isq a=true:=by
 unfold isq
 rw [decide_eq_true_eq,← val_rt,← val_mul]
 exact ⟨fun h=>ext_int h,fun h=>by rw [h]⟩
theorem lesser_int (a:F) (h:isq a=true):((root a).val:Int)=lesser (sq a.val):=by
 unfold root lesser
 rw [if_pos h]
 have g:=great_int (rt a)
 rw [val_rt] at g
 by_cases hg:RI / 2<sq a.val
 ·rw [if_pos hg,if_pos (by rw [← g];exact decide_eq_true hg),val_neg,val_rt]
 ·rw [if_neg hg,if_neg (by rw [← g,decide_eq_false hg];simp),val_rt]
def Ret (v:Value) (w:World):Ending→World→Prop:=fun e w'=>e=.returned v∧Below w.heap.size w w'
end Go.Proofs.YtmibajbpimcfnaaGreatDoor.fpn
/- What is asked of package fp, and what the reference's numbers answer, by values of numbers. -/
namespace Go.Proofs.YtmibajbpimcfnaaGreatDoor.fpn
open Go.RowKit
theorem ne_zero {a:F} (h:a≠0):(a.val:Int)≠0:=fun e=>h (Fin.ext (by
 have:a.val=0:=by omega
 rw [this];rfl))
theorem small {n:Nat} (h:n<1000):(n:Int)=((Fin.ofNat RN n:F).val:Int):=by
 show (n:Int)=((n%RN:Nat):Int)
 rw [Nat.mod_eq_of_lt (Nat.lt_trans h (by decide))]
theorem ret1 {f:FuncId} {args:Array Value} {w:World} {X:Int} {c:F}
  (h:Calls Tryz.prog f args w fun e w'=>∃ h:Nat→Int,e=.returned (.agg #[.int .u64 (h 0),.int .u64 (h 1),.int .u64 (h 2),.int .u64 (h 3),.int .u64 (h 4),.int .u64 (h 5)])∧Rg h 6∧val h 6=X∧Below w.heap.size w w')
  (hX:X=(c.val:Int)):Calls Tryz.prog f args w (Ret (FV c) w) :=
 Calls.mono h fun e w' ⟨h,he,rh,vh,hb⟩=>⟨he.trans (congrArg _ (agg_of rh (vh.trans hX))),hb⟩
theorem ret2 {f:FuncId} {args:Array Value} {w:World} {X:Int} {c:F} {v:Value}
  (h:Calls Tryz.prog f args w fun e w'=>∃ h:Nat→Int,e=.returned (.tuple #[.agg #[.int .u64 (h 0),.int .u64 (h 1),.int .u64 (h 2),.int .u64 (h 3),.int .u64 (h 4),.int .u64 (h 5)],v])∧Rg h 6∧val h 6=X∧Below w.heap.size w w')
  (hX:X=(c.val:Int)):Calls Tryz.prog f args w (Ret (.tuple #[FV c,v]) w) :=
 Calls.mono h fun e w' ⟨h,he,rh,vh,hb⟩=>⟨by rw [he,agg_of rh (vh.trans hX)],hb⟩
theorem ret0 {f:FuncId} {args:Array Value} {w:World} {X:Int} {c:F}
  (h:Calls Tryz.prog f args w fun e w'=>∃ v,e=.returned v∧(∃ h:Nat→Int,v=frv h∧Rg h 6∧val h 6=X)∧Below w.heap.size w w')
  (hX:X=(c.val:Int)):Calls Tryz.prog f args w (Ret (FV c) w) :=
 Calls.mono h fun e w' ⟨v,he,⟨h,hv,rh,vh⟩,hb⟩=>⟨by rw [he,hv];exact congrArg _ (agg_of rh (vh.trans hX)),hb⟩
theorem ret3 {f:FuncId} {args:Array Value} {w:World} {X:Int} {c:F} {u:Value}
  (h:Calls Tryz.prog f args w fun e w'=>∃ v,e=.returned (.tuple #[v,u])∧(∃ h:Nat→Int,v=frv h∧Rg h 6∧val h 6=X)∧Below w.heap.size w w')
  (hX:X=(c.val:Int)):Calls Tryz.prog f args w (Ret (.tuple #[FV c,u]) w) :=
 Calls.mono h fun e w' ⟨v,he,⟨h,hv,rh,vh⟩,hb⟩=>⟨by rw [he,hv,show frv h=FV c from agg_of rh (vh.trans hX)],hb⟩
structure FpK (G:World→Prop):Prop where
 stay:∀ {w x:World},G w→Below w.heap.size w x→G x
 add:∀ (a b:F) (w:World),G w→Calls Tryz.prog 88 #[FV a,FV b] w (Ret (FV (a+b)) w)
 sub:∀ (a b:F) (w:World),G w→Calls Tryz.prog 125 #[FV a,FV b] w (Ret (FV (a-b)) w)
 mul:∀ (a b:F) (w:World),G w→Calls Tryz.prog 86 #[FV a,FV b] w (Ret (FV (a*b)) w)
 neg:∀ (a:F) (w:World),G w→Calls Tryz.prog 90 #[FV a] w (Ret (FV (-a)) w)
 of:∀ (n:Nat) (w:World),n<1000→G w→Calls Tryz.prog 128 #[.int .u64 (n:Int)] w (Ret (FV (Fin.ofNat RN n)) w)
 inv:∀ (a:F) (w:World),G w→a≠0→Calls Tryz.prog 154 #[FV a] w (Ret (.tuple #[FV (finv a),.int .i64 0]) w)
 inv0:∀ (w:World),G w→Calls Tryz.prog 154 #[FV 0] w (Ret (.tuple #[FV 0,.int .i64 7]) w)
 may:∀ (f:Nat→Int) (w:World),G w→Rg f 6→Calls Tryz.prog 126 #[frv f] w (Ret (.bool (decide (val f 6<RI))) w)
 great:∀ (a:F) (w:World),G w→Calls Tryz.prog 49 #[FV a] w (Ret (.bool (great a)) w)
 sqrt:∀ (a:F) (w:World),G w→Calls Tryz.prog 87 #[FV a] w (Ret (.tuple #[FV (root a),.bool (isq a)]) w)
theorem fpK {G:World→Prop} (K:FpOk G):FpK G where
 stay:=K.stay
 add:=fun a b w g=>ret1 (K.add (lb a.val) (lb b.val) w g (lb_rg _ _) (lb_rg _ _) (lt_RI a) (lt_RI b)) (by rw [lbF,lbF,val_add])
 sub:=fun a b w g=>ret1 (K.sub (lb a.val) (lb b.val) w g (lb_rg _ _) (lb_rg _ _) (lt_RI a) (lt_RI b)) (by rw [lbF,lbF,val_sub])
 mul:=fun a b w g=>ret1 (K.mul (lb a.val) (lb b.val) w g (lb_rg _ _) (lb_rg _ _) (lt_RI a) (lt_RI b)) (by rw [lbF,lbF,val_mul])
 neg:=fun a w g=>ret1 (K.neg (lb a.val) w g (lb_rg _ _) (lt_RI a)) (by rw [lbF,val_neg])
 of:=fun n w hn g=>ret1 (K.of n w g ⟨by omega,by rw [B64_eq];omega⟩) (small hn)
 inv:=fun a w g h=>ret2 (K.inv (lb a.val) w g (lb_rg _ _) (lt_RI a) (by rw [lbF];exact ne_zero h)) (by rw [lbF,val_finv])
 inv0:=fun w g=>ret2 (K.inv0 (lb (0:F).val) w g (lb_rg _ _) (by rw [lbF];rfl)) rfl
 may:=fun f w g rf=>K.may f w g rf
 great:=fun a w g=>by have h:=K.great (lb a.val) w g (lb_rg _ _) (lt_RI a);rw [lbF,great_int] at h;exact h
 sqrt:=fun a w g=>by
  by_cases h:isq a=true
  ·rw [h]
   refine ret2 (K.sqrtYes (lb a.val) w g (lb_rg _ _) (lt_RI a) (by rw [lbF];exact (isq_int a).2 h)) ?_
   rw [lbF,lesser_int a h]
  ·rw [show root a=0 from if_neg h,show isq a=false by simpa using h]
   exact ret2 (K.sqrtNo (lb a.val) w g (lb_rg _ _) (lt_RI a) (by rw [lbF];exact fun e=>h ((isq_int a).1 e))) rfl
structure RefK:Prop where
 add:∀ (a b:F) (w:World),True→Calls Tryz.prog 39 #[FV a,FV b] w (Ret (FV (a+b)) w)
 sub:∀ (a b:F) (w:World),True→Calls Tryz.prog 78 #[FV a,FV b] w (Ret (FV (a-b)) w)
 mul:∀ (a b:F) (w:World),True→Calls Tryz.prog 40 #[FV a,FV b] w (Ret (FV (a*b)) w)
 neg:∀ (a:F) (w:World),True→Calls Tryz.prog 59 #[FV a] w (Ret (FV (-a)) w)
 of:∀ (n:Nat) (w:World),n<1000→True→Calls Tryz.prog 37 #[.int .u64 (n:Int)] w (Ret (FV (Fin.ofNat RN n)) w)
 inv:∀ (a:F) (w:World),True→a≠0→Calls Tryz.prog 65 #[FV a] w (Ret (.tuple #[FV (finv a),.int .i64 0]) w)
 inv0:∀ (w:World),True→Calls Tryz.prog 65 #[FV 0] w (Ret (.tuple #[FV 0,.int .i64 7]) w)
 may:∀ (f:Nat→Int) (w:World),True→Rg f 6→Calls Tryz.prog 44 #[frv f] w (Ret (.bool (decide (val f 6<RI))) w)
 great:∀ (a:F) (w:World),True→Calls Tryz.prog 51 #[FV a] w (Ret (.bool (great a)) w)
 sqrt:∀ (a:F) (w:World),True→Calls Tryz.prog 38 #[FV a] w (Ret (.tuple #[FV (root a),.bool (isq a)]) w)
end Go.Proofs.YtmibajbpimcfnaaGreatDoor.fpn
/- Pairs as one type, the value that each has, and how values are held against each other and built. -/
namespace Go.Proofs.YtmibajbpimcfnaaGreatDoor.fpn
open Go.RowKit Pl
structure F2 where
 c0:F
 c1:F
 deriving DecidableEq
namespace F2
theorem ext' {x y:F2} (h0:x.c0=y.c0) (h1:x.c1=y.c1):x=y:=by cases x;cases y;simp_all
instance : Add F2 := ⟨fun x y => ⟨x.c0 + y.c0, x.c1 + y.c1⟩⟩
instance : Sub F2 := ⟨fun x y => ⟨x.c0 - y.c0, x.c1 - y.c1⟩⟩
instance : Neg F2 := ⟨fun x => ⟨-x.c0, -x.c1⟩⟩
instance : Mul F2 := ⟨fun x y => ⟨x.c0 * y.c0 - x.c1 * y.c1, x.c0 * y.c1 + x.c1 * y.c0⟩⟩
instance : OfNat F2 0 := ⟨⟨0, 0⟩⟩
instance : OfNat F2 1 := ⟨⟨1, 0⟩⟩
def conj (x:F2):F2:=⟨x.c0,-x.c1⟩
def norm (x:F2):F:=x.c0*x.c0+x.c1*x.c1
noncomputable def inv (x:F2):F2:=⟨x.c0*finv x.norm,-x.c1*finv x.norm⟩
def great (x:F2):Bool:=if x.c1=0 then fpn.great x.c0 else fpn.great x.c1
@[simp] theorem add_c0 (x y:F2):(x+y).c0=x.c0+y.c0:=rfl
@[simp] theorem add_c1 (x y:F2):(x+y).c1=x.c1+y.c1:=rfl
@[simp] theorem sub_c0 (x y:F2):(x-y).c0=x.c0-y.c0:=rfl
@[simp] theorem sub_c1 (x y:F2):(x-y).c1=x.c1-y.c1:=rfl
@[simp] theorem neg_c0 (x:F2):(-x).c0=-x.c0:=rfl
@[simp] theorem neg_c1 (x:F2):(-x).c1=-x.c1:=rfl
@[simp] theorem mul_c0 (x y:F2):(x*y).c0=x.c0*y.c0-x.c1*y.c1:=rfl
@[simp] theorem mul_c1 (x y:F2):(x*y).c1=x.c0*y.c1+x.c1*y.c0:=rfl
@[simp] theorem zero_c0:(0:F2).c0=0:=rfl
@[simp] theorem zero_c1:(0:F2).c1=0:=rfl
@[simp] theorem one_c0:(1:F2).c0=1:=rfl
@[simp] theorem one_c1:(1:F2).c1=0:=rfl
@[simp] theorem conj_c0 (x:F2):(conj x).c0=x.c0:=rfl
@[simp] theorem conj_c1 (x:F2):(conj x).c1=-x.c1:=rfl
end F2
def PC (x:F2):List Value:=FC x.c0++FC x.c1
def PV (x:F2):Value:=.agg (PC x).toArray
theorem PC_len (x:F2):(PC x).length=12:=rfl
theorem lb_eq {a b:F} (h:∀ i,i<6→lb a.val i=lb b.val i):a=b:=ext_int (by rw [← lbF a,← lbF b];exact val_congr h)
theorem eqF (d:Nat) (a b:F) (w:World):(Op.equalIn (d+2) 28 (FV a) (FV b)).run Tryz.prog w=.ok (decide (a=b)) w:=by
 have key:∀ (a b c d' p q a' b' c' d'' p' q':Int),(Op.equalIn (d+2) 28 (.agg #[.int .u64 a,.int .u64 b,.int .u64 c,.int .u64 d',.int .u64 p,.int .u64 q]) (.agg #[.int .u64 a',.int .u64 b',.int .u64 c',.int .u64 d'',.int .u64 p',.int .u64 q'])).run Tryz.prog w=.ok (a == a' && (b == b' && (c == c' && (d' == d'' && (p == p' && q == q'))))) w:=by
  intro a b c d' p q a' b' c' d'' p' q'
  have u3:=Tryz.underlying22
  have a3:=Tryz.isAgg22
  have z3:=Tryz.sizeOf22
  have hE:∀ (x y:Int) (w:World),(Op.equalIn (d+1) 22 (.int .u64 x) (.int .u64 y)).run Tryz.prog w=.ok (x == y) w:=fun x y w=>by
   rw [Op.equalIn.eq_def]
   simp [Sem.run_bind,run_underlying Tryz.underlying22]
  rw [show d+2=(d+1)+1 from rfl,Op.equalIn.eq_def]
  simp only [Sem.run_bind,run_underlying Tryz.underlying28,Result.andThen_ok]
  simp only [Std.Legacy.Range.forIn_eq_forIn_range',Std.Legacy.Range.size,Nat.sub_zero,Nat.add_sub_cancel,Nat.div_one,List.range'_succ,List.range'_zero,List.forIn_cons,List.forIn_nil]
  go_simp
  by_cases h1:a=a'
  ·by_cases h2:b=b'
   ·by_cases h3:c=c'
    ·by_cases h4:d'=d''
     ·by_cases h5:p=p'
      ·by_cases h6:q=q'<;>simp [h1,h2,h3,h4,h5,h6]
      ·simp [h1,h2,h3,h4,h5]
     ·simp [h1,h2,h3,h4]
    ·simp [h1,h2,h3]
   ·simp [h1,h2]
  ·simp [h1]
 rw [FV_agg,FV_agg,key]
 congr 1
 by_cases h:a=b
 ·subst h;simp
 ·rw [decide_eq_false h,Bool.eq_false_iff]
  intro hc
  simp only [Bool.and_eq_true,beq_iff_eq] at hc
  refine h (lb_eq fun i hi=>?_)
  rcases (show i=0∨i=1∨i=2∨i=3∨i=4∨i=5 by omega) with rfl | rfl | rfl | rfl | rfl | rfl
  ·exact hc.1
  ·exact hc.2.1
  ·exact hc.2.2.1
  ·exact hc.2.2.2.1
  ·exact hc.2.2.2.2.1
  ·exact hc.2.2.2.2.2
end Go.Proofs.YtmibajbpimcfnaaGreatDoor.fpn
/- How numbers and pairs are held against each other and built, as operations. -/
namespace Go.Proofs.YtmibajbpimcfnaaGreatDoor.fpn
open Go.RowKit Pl
theorem cut0 (x:F2):List.take 6 (PC x)=FC x.c0:=rfl
theorem cut1 (x:F2):List.take 6 (List.drop 6 (PC x))=FC x.c1:=rfl
theorem eqP (d:Nat) (x y:F2) (w:World):(Op.equalIn (d+3) 34 (PV x) (PV y)).run Tryz.prog w=.ok (decide (x=y)) w:=by
 have hE:∀ (a b:F) (w:World),(Op.equalIn (d+2) 28 (.agg (FC a).toArray) (.agg (FC b).toArray)).run Tryz.prog w=.ok (decide (a=b)) w:=fun a b w=>eqF d a b w
 have hp0:∀ (x:F2) (w:World),(part 28 (PC x).toArray 0).run Tryz.prog w=.ok (.agg (FC x.c0).toArray) w:=fun x w=>by
  simp [part,Sem.run_bind,Tryz.isAgg28,Tryz.sizeOf28,cut0]
 have hp1:∀ (x:F2) (w:World),(part 28 (PC x).toArray 6).run Tryz.prog w=.ok (.agg (FC x.c1).toArray) w:=fun x w=>by
  simp [part,Sem.run_bind,Tryz.isAgg28,Tryz.sizeOf28,cut1]
 unfold PV
 rw [show d+3=(d+2)+1 from rfl,Op.equalIn.eq_def]
 simp only [Sem.run_bind,run_underlying Tryz.underlying34,Result.andThen_ok]
 simp only [Std.Legacy.Range.forIn_eq_forIn_range',Std.Legacy.Range.size,Nat.sub_zero,Nat.add_sub_cancel,Nat.div_one,List.range'_succ,List.range'_zero,List.forIn_cons,List.forIn_nil]
 simp only [Sem.run_bind,Tryz.sizeOf28,Result.andThen_ok,Nat.zero_mul,Nat.reduceAdd,Nat.reduceMul,Nat.one_mul,hp0,hp1,hE]
 by_cases h0:x.c0=y.c0
 ·by_cases h1:x.c1=y.c1
  ·have:x=y:=F2.ext' h0 h1
   simp [h0,h1,this,hp0,hp1,hE]
  ·have:x≠y:=fun e=>h1 (by rw [e])
   simp [h0,h1,this,hp0,hp1,hE]
 ·have:x≠y:=fun e=>h0 (by rw [e])
  simp [h0,this,hp0,hp1,hE]
theorem guardF (op:BinOp) (x y:Operand) (a b:F) (w:World):(eqGuard op 28 x y (FV a) (FV b)).run Tryz.prog w=.ok () w:=by
 have h:Tryz.prog.eqGuardType Tryz.prog.depth 28=false:=by kernel_rfl
 unfold eqGuard FV
 cases op<;>simp [Sem.run_bind,h]
theorem guardP (op:BinOp) (x y:Operand) (a b:F2) (w:World):(eqGuard op 34 x y (PV a) (PV b)).run Tryz.prog w=.ok () w:=by
 have h:Tryz.prog.eqGuardType Tryz.prog.depth 34=false:=by kernel_rfl
 unfold eqGuard PV
 cases op<;>simp [Sem.run_bind,h]
theorem eqlF (a b:F) (w:World):(binOp .eql 28 (FV a) (FV b)).run Tryz.prog w=.ok (.bool (decide (a=b))) w:=by
 have:=eqF 9998 a b w
 unfold FV at *
 simp [binOp,Sem.run_bind,Op.equal,Op.maxDepth,this]
theorem neqF (a b:F) (w:World):(binOp .neq 28 (FV a) (FV b)).run Tryz.prog w=.ok (.bool (!decide (a=b))) w:=by
 have:=eqF 9998 a b w
 unfold FV at *
 simp [binOp,Sem.run_bind,Op.equal,Op.maxDepth,this]
theorem eqlP (a b:F2) (w:World):(binOp .eql 34 (PV a) (PV b)).run Tryz.prog w=.ok (.bool (decide (a=b))) w:=by
 have:=eqP 9997 a b w
 unfold PV at *
 simp [binOp,Sem.run_bind,Op.equal,Op.maxDepth,this]
theorem neqP (a b:F2) (w:World):(binOp .neq 34 (PV a) (PV b)).run Tryz.prog w=.ok (.bool (!decide (a=b))) w:=by
 have:=eqP 9997 a b w
 unfold PV at *
 simp [binOp,Sem.run_bind,Op.equal,Op.maxDepth,this]
theorem eqlI (t:TypeId) (k:IntKind) (a b:Int) (w:World):(binOp .eql t (.int k a) (.int k b)).run Tryz.prog w=.ok (.bool (decide (a=b))) w:=by
 by_cases h:a=b<;>simp [binOp,Sem.run_bind,Op.intCmp,h]
theorem neqI (t:TypeId) (k:IntKind) (a b:Int) (w:World):(binOp .neq t (.int k a) (.int k b)).run Tryz.prog w=.ok (.bool (!decide (a=b))) w:=by
 by_cases h:a=b<;>simp [binOp,Sem.run_bind,Op.intCmp,h]
theorem zeroF:(Tryz.prog.info? 28).bind (·.zero)=some (.agg (FC 0).toArray):=by kernel_rfl
theorem zeroP:(Tryz.prog.info? 34).bind (·.zero)=some (.agg (PC 0).toArray):=by kernel_rfl
theorem sizeF:(Tryz.prog.info? 28).map (·.size)=some 6:=by kernel_rfl
theorem sizeP:(Tryz.prog.info? 34).map (·.size)=some 12:=by kernel_rfl
theorem buildF0 (w:World):(Instr.build 28 #[]).run Tryz.prog w=.ok (FV 0) w :=
 run_build_array (sz:=1) (cs:=FC 0) Tryz.underlying28 (by kernel_rfl) zeroF rfl w
theorem buildF1 (w:World):(Instr.build 28 #[(0,.int .u64 1)]).run Tryz.prog w=.ok (FV 1) w :=
 run_build_array (sz:=1) (cs:=FC 1) Tryz.underlying28 (by kernel_rfl) zeroF (by kernel_rfl) w
def QC (f:Nat→Int):List Value:=[.int .u64 (f 0),.int .u64 (f 1),.int .u64 (f 2),.int .u64 (f 3),.int .u64 (f 4),.int .u64 (f 5)]
def QV (f:Nat→Int):Value:=.agg (QC f).toArray
def QC2 (f g:Nat→Int):List Value:=QC f++QC g
def QV2 (f g:Nat→Int):Value:=.agg (QC2 f g).toArray
theorem spl0 (a:F) (x:F2):Pl.splice (PC x) 0 (FC a)=PC ⟨a,x.c1⟩:=rfl
theorem spl1 (a:F) (x:F2):Pl.splice (PC x) 6 (FC a)=PC ⟨x.c0,a⟩:=rfl
theorem buildP0 (w:World):(Instr.build 34 #[]).run Tryz.prog w=.ok (PV 0) w :=
 run_build_array (cs:=PC 0) Tryz.underlying34 sizeF zeroP rfl w
theorem buildPa (a:F) (w:World):(Instr.build 34 #[(0,FV a)]).run Tryz.prog w=.ok (PV ⟨a,0⟩) w :=
 run_build_array (cs:=PC ⟨a,0⟩) Tryz.underlying34 sizeF zeroP (by
  show Instr.fill _ (PC 0).toArray [(0,.agg (FC a).toArray)]=_
  rw [fill_cons (off:=0) (sz:=6) rfl (FC_len a) (by rw [PC_len];omega),spl0];rfl) w
theorem buildP (a b:F) (w:World):(Instr.build 34 #[(0,FV a),(1,FV b)]).run Tryz.prog w=.ok (PV ⟨a,b⟩) w :=
 run_build_array (cs:=PC ⟨a,b⟩) Tryz.underlying34 sizeF zeroP (by
  show Instr.fill _ (PC 0).toArray [(0,.agg (FC a).toArray),(1,.agg (FC b).toArray)]=_
  rw [fill_cons (off:=0) (sz:=6) rfl (FC_len a) (by rw [PC_len];omega),spl0,fill_cons (off:=6) (sz:=6) rfl (FC_len b) (by rw [PC_len];omega),spl1];rfl) w
theorem one_mk:(⟨1,0⟩:F2)=1:=rfl
theorem ofN1:(Fin.ofNat RN 1:F)=1:=by kernel_rfl
theorem ofN2:(Fin.ofNat RN 2:F)=2:=by kernel_rfl
theorem FpK.of1 {G:World→Prop} (K:FpK G) (w:World) (hg:G w):Calls Tryz.prog 128 #[.int .u64 1] w (Ret (FV 1) w):=by
 have h:=K.of 1 w (by decide) hg
 rw [ofN1] at h
 exact h
theorem RefK.of1 (R:RefK) (w:World):Calls Tryz.prog 37 #[.int .u64 1] w (Ret (FV 1) w):=by
 have h:=R.of 1 w (by decide) trivial
 rw [ofN1] at h
 exact h
theorem RefK.of2 (R:RefK) (w:World):Calls Tryz.prog 37 #[.int .u64 2] w (Ret (FV 2) w):=by
 have h:=R.of 2 w (by decide) trivial
 rw [ofN2] at h
 exact h
end Go.Proofs.YtmibajbpimcfnaaGreatDoor.fpn
/- Types of rows, by short names. -/
namespace Go.Proofs.YtmibajbpimcfnaaGreatDoor.fpn
open Go.RowKit Pl
theorem rF:RowT Tryz.prog 28 6 (FC 0):=⟨⟨_,Tryz.underlying28,rfl⟩,sizeF,zeroF⟩
theorem rP:RowT Tryz.prog 34 12 (PC 0):=⟨⟨_,Tryz.underlying34,rfl⟩,sizeP,zeroP⟩
theorem aP:ArrT Tryz.prog 34 2 6:=⟨⟨_,Tryz.underlying34,sizeF⟩⟩
theorem qF:EqT Tryz.prog 28 FV:=⟨fun _ _ _ _ _ w=>guardF _ _ _ _ _ w,eqlF,neqF⟩
theorem qP:EqT Tryz.prog 34 PV:=⟨fun _ _ _ _ _ w=>guardP _ _ _ _ _ w,eqlP,neqP⟩
theorem nm {α:Type} (a:α):∃ m,m=a:=⟨a,rfl⟩
theorem nF {G:World→Prop} {m a:F} {f:FuncId} {vs:Array Value} (e:m=a) (h:∀ w,G w→Calls Tryz.prog f vs w (Ret (FV a) w)):∀ w,G w→Calls Tryz.prog f vs w (Ret (FV m) w):=e▸h
theorem nP {G:World→Prop} {m a:F2} {f:FuncId} {vs:Array Value} (e:m=a) (h:∀ w,G w→Calls Tryz.prog f vs w (Ret (PV a) w)):∀ w,G w→Calls Tryz.prog f vs w (Ret (PV m) w):=e▸h
theorem nFR {m a:F} {f:FuncId} {vs:Array Value} (e:m=a) (h:∀ w,Calls Tryz.prog f vs w (Ret (FV a) w)):∀ w,Calls Tryz.prog f vs w (Ret (FV m) w):=e▸h
theorem nPR {m a:F2} {f:FuncId} {vs:Array Value} (e:m=a) (h:∀ w,Calls Tryz.prog f vs w (Ret (PV a) w)):∀ w,Calls Tryz.prog f vs w (Ret (PV m) w):=e▸h
theorem nSR {m a:F} {f:FuncId} {vs:Array Value} (e:m=a) (h:∀ w,Calls Tryz.prog f vs w (Ret (PV ⟨a,0⟩) w)):∀ w,Calls Tryz.prog f vs w (Ret (PV ⟨m,0⟩) w):=e▸h
theorem nTR {m a:F} {v:Value} {f:FuncId} {vs:Array Value} (e:m=a) (h:∀ w,Calls Tryz.prog f vs w (Ret (.tuple #[FV a,v]) w)):∀ w,Calls Tryz.prog f vs w (Ret (.tuple #[FV m,v]) w):=e▸h
theorem nUR {m a:F2} {v:Value} {f:FuncId} {vs:Array Value} (e:m=a) (h:∀ w,Calls Tryz.prog f vs w (Ret (.tuple #[PV a,v]) w)):∀ w,Calls Tryz.prog f vs w (Ret (.tuple #[PV m,v]) w):=e▸h
end Go.Proofs.YtmibajbpimcfnaaGreatDoor.fpn
/- What the reference's numbers answer; its SqrtP by plan. -/
namespace Go.Proofs.YtmibajbpimcfnaaGreatDoor.fpn
open Go.RowKit Pl
theorem ref0mul:∀ (a b:F) (w:World),Calls Tryz.prog 40 #[FV a,FV b] w (Ret (FV (a*b)) w):=fun a b w=>ret0 (mulR_any (lb a.val) (lb b.val) w (lb_rg _ _) (lb_rg _ _) (lt_RI b)) (by rw [lbF,lbF,val_mul])
theorem ref0neg:∀ (a:F) (w:World),Calls Tryz.prog 59 #[FV a] w (Ret (FV (-a)) w):=fun a w=>ret0 (negR_any (lb a.val) w (lb_rg _ _) (lt_RI a)) (by rw [lbF,val_neg])
theorem ref0great:∀ (a:F) (w:World),Calls Tryz.prog 51 #[FV a] w (Ret (.bool (great a)) w):=fun a w=>by have h:=greatP_any (lb a.val) w (lb_rg _ _);rw [lbF,great_int] at h;exact h
def isNm (M N:Nat) (v:Value) (w:World):Prop:=∃ p n c f,v=.slice p n c∧n≤M∧n≤c∧c≤9223372036854775807∧At w p n f∧Rg f n∧val f n=(N:Int)
theorem isNm.stay {M N:Nat} {v:Value} {w x:World} (h:isNm M N v w) (hb:Below w.heap.size w x):isNm M N v x:=by
 obtain ⟨p,n,c,f,e,h1,h2,h3,a,r,v⟩:=h
 exact ⟨p,n,c,f,e,h1,h2,h3,AtK.below a hb,r,v⟩
theorem nmP (w:World):Calls Tryz.prog 74 #[] w fun e w'=>∃ v,e=.returned v∧isNm 24 RN v w'∧Below w.heap.size w w' :=
 Calls.mono (refR_any w) fun e w' ⟨he,hb,_,m⟩=>⟨_,he,⟨_,6,6,rL,rfl,by decide,by decide,by decide,m.at,rL_rg,rL_val⟩,hb⟩
theorem nmSum (u v:Value) (w:World) (hu:isNm 24 RN u w) (hv:isOne 1 v w):Calls Tryz.prog 73 #[u,v] w fun e w'=>∃ v,e=.returned v∧isNm 100 (RN+1) v w'∧Below w.heap.size w w':=by
 obtain ⟨p,n,c,f,rfl,h1,h2,h3,a,r,vv⟩:=hu
 obtain ⟨k,rfl,b⟩:=hv
 have b':At w (some ⟨k,0,none⟩) 1 (one 1):=AtK.congr b fun i hi=>by obtain rfl:i=0:=(by omega);rfl
 refine Calls.mono (refSum_any p _ n 1 c 1 f (one 1) w h2 h3 (by decide) (by decide) a b' r (one_rg ⟨by decide,by rw [B64_eq];decide⟩ 1) (by omega) (by decide)) ?_
 rintro e w' ⟨v,he,hb,q,m,c',g,rfl,l1,l2,l3,ha,hr,-,hv⟩
 exact ⟨_,he,⟨q,m,c',g,rfl,by omega,l1,l2,ha,hr,by rw [hv,vv,val_one];rfl⟩,hb⟩
theorem nmHalf (N:Nat) (h0:0<N) (u:Value) (w:World) (hu:isNm 100 N u w):Calls Tryz.prog 72 #[u] w fun e w'=>∃ v,e=.returned v∧isNm 100 (N / 2) v w'∧Below w.heap.size w w':=by
 obtain ⟨p,n,c,f,rfl,h1,h2,h3,a,r,vv⟩:=hu
 have hn:0<n:=by
  rcases Nat.eq_zero_or_pos n with rfl | h
  ·simp [val] at vv;omega
  ·exact h
 refine Calls.mono (half_any p n c f w hn (by omega) h2 a r) ?_
 rintro e w' ⟨b,he,hb,m⟩
 exact ⟨_,he,⟨_,n,n,_,rfl,h1,Nat.le_refl _,by omega,m.at,hv_rg r,by rw [hv_val hn,vv];rfl⟩,hb⟩
theorem SE_four:(RN+1) / 2 / 2=SE:=by unfold SE;rw [Nat.div_div_eq_div_mul]
theorem nmPow (a:F) (u:Value) (w:World) (hu:isNm 100 ((RN+1) / 2 / 2) u w):Calls Tryz.prog 71 #[FV a,u] w (Ret (FV (rt a)) w):=by
 rw [SE_four] at hu
 obtain ⟨p,n,c,f,rfl,h1,h2,h3,ha,r,vv⟩:=hu
 exact ret0 (powR_any (lb a.val) p n c f SE w (lb_rg _ _) (lt_RI a) (by omega) ha r vv) (by rw [lbF,val_rt];rfl)
theorem sqrt0 (a:F) (w:World) (h:rt a*rt a≠a):Calls Tryz.prog 38 #[FV a] w (Ret (.tuple #[FV 0,.bool false]) w):=by
 have hp0:=Heap.start w
 go_enter Tryz.func38,Tryz.ntmps38
 refine sgs [.alloc (FC a),.alloc (FC 0),.det (.bool false)] [0,1,2] [0,0,0] (fun L=>[FV a,L.p 0,L.p 1,.bool false]++U 19) (fun L=>[(L.b 0,FC a),(L.b 1,FC 0)]) hp0 ⟨
  oB,oZ rF,oA,
  trivial⟩ (fun L0 w1 hp1=>?_)
 refine sdr [.det (FV a),.any (isNm 24 RN),.any (isOne 1),.any (isNm 100 (RN+1)),.any (isNm 100 ((RN+1) / 2)),.any (isNm 100 (((RN+1) / 2) / 2)),.det (FV (rt a)),.alloc (FC 0),.store (.new 7) 0 (FC (rt a)) (FC (rt a))] (nn 9) [0,0,0,6,14,30,63,0,255] (fun L=>[FV a,L0.p 0,L0.p 1,.bool false,L.p 7,FV a,L.v 1,L.v 2,L.v 3,L.v 4,L.v 5,FV (rt a)]++U 11) (fun L=>[(L0.b 0,FC a),(L0.b 1,FC 0),(L.b 7,FC (rt a))]) hp1 ⟨
  oL 0 0 rF,oY (fun L=>#[]) (fun _ _ _ h hb=>h.stay hb) (fun _ w _=>nmP w),oS1 Tryz.underlying61 (by kernel_rfl) (by kernel_rfl),oY (fun L=>#[L.v 1,L.v 2]) (fun _ _ _ h hb=>h.stay hb) (fun L w hs=>nmSum _ _ w (hs.any 1 _ rfl rfl) (hs.any 2 _ rfl rfl)),
  oY (fun L=>#[L.v 3]) (fun _ _ _ h hb=>h.stay hb) (fun L w hs=>nmHalf (RN+1) (by decide) _ w (hs.any 3 _ rfl rfl)),oY (fun L=>#[L.v 4]) (fun _ _ _ h hb=>h.stay hb) (fun L w hs=>nmHalf ((RN+1) / 2) (by decide) _ w (hs.any 4 _ rfl rfl)),
  oCS (fun L=>#[FV a,L.v 5]) (fun L w hs=>nmPow a _ w (hs.any 5 _ rfl rfl)),oZ rF,oT rF,
  trivial⟩ (fun L1 w2 hp2=>?_)
 refine wp_seq_k (fun K3 k3=>?_)
 refine sdr [.det (FV (rt a)),.det (FV (rt a)),.det (FV ((rt a)*(rt a))),.det (FV a),.det (.bool true)] (nn 5) [0,0,3,0,15] (fun L=>[FV a,L0.p 0,L0.p 1,.bool false,L1.p 7,FV a,(L1.v 1),(L1.v 2),(L1.v 3),(L1.v 4),(L1.v 5),FV (rt a),FV (rt a),FV (rt a),FV ((rt a)*(rt a)),FV a,.bool true]++U 6) (fun L=>[(L0.b 0,FC a),(L0.b 1,FC 0),(L1.b 7,FC (rt a))]) hp2 ⟨
  oL 2 0 rF,oL 2 0 rF,oR (ref0mul (rt a) (rt a)),oL 0 0 rF,oU (a:=((rt a)*(rt a))) (b:=a) qF (yes' h),
  trivial⟩ (fun L2 w3 hp3=>?_)
 refine cT ?_
 refine sgs [.det (FV 0),.store (.base 1) 0 (FC 0) (FC 0),.det (.bool false)] [0,1,2] [0,1,3] (fun L=>[FV a,L0.p 0,L0.p 1,.bool false,L1.p 7,FV a,(L1.v 1),(L1.v 2),(L1.v 3),(L1.v 4),(L1.v 5),FV (rt a),FV (rt a),FV (rt a),FV ((rt a)*(rt a)),FV a,.bool true,FV 0]++U 5) (fun L=>[(L0.b 0,FC a),(L0.b 1,FC 0),(L1.b 7,FC (rt a))]) hp3 ⟨
  oD buildF0,oT rF,oA,
  trivial⟩ (fun L3 w4 hp4=>?_)
 refine wp_ret ?_
 refine bodyPost_ret (v:=.tuple #[FV 0,.bool false]) ?_ rfl ?_
 ·exact rct rF rfl (by kernel_rfl) (by kernel_rfl) (hp4.bound 1 rfl).2
 ·exact ⟨rfl,hp4.bel⟩
theorem sqrt1 (a:F) (w:World) (h:rt a*rt a=a) (hgr:great (rt a)=false):Calls Tryz.prog 38 #[FV a] w (Ret (.tuple #[FV (rt a),.bool true]) w):=by
 have hp0:=Heap.start w
 go_enter Tryz.func38,Tryz.ntmps38
 refine sgs [.alloc (FC a),.alloc (FC 0),.det (.bool false)] [0,1,2] [0,0,0] (fun L=>[FV a,L.p 0,L.p 1,.bool false]++U 19) (fun L=>[(L.b 0,FC a),(L.b 1,FC 0)]) hp0 ⟨
  oB,oZ rF,oA,
  trivial⟩ (fun L0 w1 hp1=>?_)
 refine sdr [.det (FV a),.any (isNm 24 RN),.any (isOne 1),.any (isNm 100 (RN+1)),.any (isNm 100 ((RN+1) / 2)),.any (isNm 100 (((RN+1) / 2) / 2)),.det (FV (rt a)),.alloc (FC 0),.store (.new 7) 0 (FC (rt a)) (FC (rt a))] (nn 9) [0,0,0,6,14,30,63,0,255] (fun L=>[FV a,L0.p 0,L0.p 1,.bool false,L.p 7,FV a,L.v 1,L.v 2,L.v 3,L.v 4,L.v 5,FV (rt a)]++U 11) (fun L=>[(L0.b 0,FC a),(L0.b 1,FC 0),(L.b 7,FC (rt a))]) hp1 ⟨
  oL 0 0 rF,oY (fun L=>#[]) (fun _ _ _ h hb=>h.stay hb) (fun _ w _=>nmP w),oS1 Tryz.underlying61 (by kernel_rfl) (by kernel_rfl),oY (fun L=>#[L.v 1,L.v 2]) (fun _ _ _ h hb=>h.stay hb) (fun L w hs=>nmSum _ _ w (hs.any 1 _ rfl rfl) (hs.any 2 _ rfl rfl)),
  oY (fun L=>#[L.v 3]) (fun _ _ _ h hb=>h.stay hb) (fun L w hs=>nmHalf (RN+1) (by decide) _ w (hs.any 3 _ rfl rfl)),oY (fun L=>#[L.v 4]) (fun _ _ _ h hb=>h.stay hb) (fun L w hs=>nmHalf ((RN+1) / 2) (by decide) _ w (hs.any 4 _ rfl rfl)),
  oCS (fun L=>#[FV a,L.v 5]) (fun L w hs=>nmPow a _ w (hs.any 5 _ rfl rfl)),oZ rF,oT rF,
  trivial⟩ (fun L1 w2 hp2=>?_)
 refine wp_seq_k (fun K3 k3=>?_)
 refine sdr [.det (FV (rt a)),.det (FV (rt a)),.det (FV ((rt a)*(rt a))),.det (FV a),.det (.bool false)] (nn 5) [0,0,3,0,15] (fun L=>[FV a,L0.p 0,L0.p 1,.bool false,L1.p 7,FV a,(L1.v 1),(L1.v 2),(L1.v 3),(L1.v 4),(L1.v 5),FV (rt a),FV (rt a),FV (rt a),FV ((rt a)*(rt a)),FV a,.bool false]++U 6) (fun L=>[(L0.b 0,FC a),(L0.b 1,FC 0),(L1.b 7,FC (rt a))]) hp2 ⟨
  oL 2 0 rF,oL 2 0 rF,oR (ref0mul (rt a) (rt a)),oL 0 0 rF,oU (a:=((rt a)*(rt a))) (b:=a) qF (nay' h),
  trivial⟩ (fun L2 w3 hp3=>?_)
 refine cfk (k3 _ _ ?_)
 refine wp_seq_k (fun K5 k5=>?_)
 refine sgs [.det (FV (rt a)),.det (.bool false)] [0,1] [0,1] (fun L=>[FV a,L0.p 0,L0.p 1,.bool false,L1.p 7,FV a,(L1.v 1),(L1.v 2),(L1.v 3),(L1.v 4),(L1.v 5),FV (rt a),FV (rt a),FV (rt a),FV ((rt a)*(rt a)),FV a,.bool false,undef,FV (rt a),.bool false,undef,undef,undef]) (fun L=>[(L0.b 0,FC a),(L0.b 1,FC 0),(L1.b 7,FC (rt a))]) hp3 ⟨
  oL 2 0 rF,oH (v:=.bool false) (vs:=#[FV (rt a)]) (fun w _ _=>by have h:=ref0great (rt a) w;rw [hgr] at h;exact h),
  trivial⟩ (fun L3 w4 hp4=>?_)
 refine cfk (k5 _ _ ?_)
 refine sgs [.det (FV (rt a)),.store (.base 1) 0 (FC (rt a)) (FC (rt a)),.det (.bool true)] [0,1,2] [0,1,3] (fun L=>[FV a,L0.p 0,L0.p 1,.bool true,L1.p 7,FV a,(L1.v 1),(L1.v 2),(L1.v 3),(L1.v 4),(L1.v 5),FV (rt a),FV (rt a),FV (rt a),FV ((rt a)*(rt a)),FV a,.bool false,undef,FV (rt a),.bool false,undef,undef,FV (rt a)]) (fun L=>[(L0.b 0,FC a),(L0.b 1,FC (rt a)),(L1.b 7,FC (rt a))]) hp4 ⟨
  oL 2 0 rF,oT rF,oA,
  trivial⟩ (fun L4 w5 hp5=>?_)
 refine wp_ret ?_
 refine bodyPost_ret (v:=.tuple #[FV (rt a),.bool true]) ?_ rfl ?_
 ·exact rct rF rfl (by kernel_rfl) (by kernel_rfl) (hp5.bound 1 rfl).2
 ·exact ⟨rfl,hp5.bel⟩
theorem sqrt2 (a:F) (w:World) (h:rt a*rt a=a) (hgr:great (rt a)=true):Calls Tryz.prog 38 #[FV a] w (Ret (.tuple #[FV (-rt a),.bool true]) w):=by
 have hp0:=Heap.start w
 go_enter Tryz.func38,Tryz.ntmps38
 refine sgs [.alloc (FC a),.alloc (FC 0),.det (.bool false)] [0,1,2] [0,0,0] (fun L=>[FV a,L.p 0,L.p 1,.bool false]++U 19) (fun L=>[(L.b 0,FC a),(L.b 1,FC 0)]) hp0 ⟨
  oB,oZ rF,oA,
  trivial⟩ (fun L0 w1 hp1=>?_)
 refine sdr [.det (FV a),.any (isNm 24 RN),.any (isOne 1),.any (isNm 100 (RN+1)),.any (isNm 100 ((RN+1) / 2)),.any (isNm 100 (((RN+1) / 2) / 2)),.det (FV (rt a)),.alloc (FC 0),.store (.new 7) 0 (FC (rt a)) (FC (rt a))] (nn 9) [0,0,0,6,14,30,63,0,255] (fun L=>[FV a,L0.p 0,L0.p 1,.bool false,L.p 7,FV a,L.v 1,L.v 2,L.v 3,L.v 4,L.v 5,FV (rt a)]++U 11) (fun L=>[(L0.b 0,FC a),(L0.b 1,FC 0),(L.b 7,FC (rt a))]) hp1 ⟨
  oL 0 0 rF,oY (fun L=>#[]) (fun _ _ _ h hb=>h.stay hb) (fun _ w _=>nmP w),oS1 Tryz.underlying61 (by kernel_rfl) (by kernel_rfl),oY (fun L=>#[L.v 1,L.v 2]) (fun _ _ _ h hb=>h.stay hb) (fun L w hs=>nmSum _ _ w (hs.any 1 _ rfl rfl) (hs.any 2 _ rfl rfl)),
  oY (fun L=>#[L.v 3]) (fun _ _ _ h hb=>h.stay hb) (fun L w hs=>nmHalf (RN+1) (by decide) _ w (hs.any 3 _ rfl rfl)),oY (fun L=>#[L.v 4]) (fun _ _ _ h hb=>h.stay hb) (fun L w hs=>nmHalf ((RN+1) / 2) (by decide) _ w (hs.any 4 _ rfl rfl)),
  oCS (fun L=>#[FV a,L.v 5]) (fun L w hs=>nmPow a _ w (hs.any 5 _ rfl rfl)),oZ rF,oT rF,
  trivial⟩ (fun L1 w2 hp2=>?_)
 refine wp_seq_k (fun K3 k3=>?_)
 refine sdr [.det (FV (rt a)),.det (FV (rt a)),.det (FV ((rt a)*(rt a))),.det (FV a),.det (.bool false)] (nn 5) [0,0,3,0,15] (fun L=>[FV a,L0.p 0,L0.p 1,.bool false,L1.p 7,FV a,(L1.v 1),(L1.v 2),(L1.v 3),(L1.v 4),(L1.v 5),FV (rt a),FV (rt a),FV (rt a),FV ((rt a)*(rt a)),FV a,.bool false]++U 6) (fun L=>[(L0.b 0,FC a),(L0.b 1,FC 0),(L1.b 7,FC (rt a))]) hp2 ⟨
  oL 2 0 rF,oL 2 0 rF,oR (ref0mul (rt a) (rt a)),oL 0 0 rF,oU (a:=((rt a)*(rt a))) (b:=a) qF (nay' h),
  trivial⟩ (fun L2 w3 hp3=>?_)
 refine cfk (k3 _ _ ?_)
 refine wp_seq_k (fun K5 k5=>?_)
 refine sgs [.det (FV (rt a)),.det (.bool true)] [0,1] [0,1] (fun L=>[FV a,L0.p 0,L0.p 1,.bool false,L1.p 7,FV a,(L1.v 1),(L1.v 2),(L1.v 3),(L1.v 4),(L1.v 5),FV (rt a),FV (rt a),FV (rt a),FV ((rt a)*(rt a)),FV a,.bool false,undef,FV (rt a),.bool true,undef,undef,undef]) (fun L=>[(L0.b 0,FC a),(L0.b 1,FC 0),(L1.b 7,FC (rt a))]) hp3 ⟨
  oL 2 0 rF,oH (v:=.bool true) (vs:=#[FV (rt a)]) (fun w _ _=>by have h:=ref0great (rt a) w;rw [hgr] at h;exact h),
  trivial⟩ (fun L3 w4 hp4=>?_)
 refine cT ?_
 refine gs [.det (FV (rt a)),.det (FV (-(rt a))),.store (.base 2) 0 (FC (-(rt a))) (FC (-(rt a)))] [0,1,2] [0,1,3] (fun L=>[FV a,L0.p 0,L0.p 1,.bool false,L1.p 7,FV a,(L1.v 1),(L1.v 2),(L1.v 3),(L1.v 4),(L1.v 5),FV (rt a),FV (rt a),FV (rt a),FV ((rt a)*(rt a)),FV a,.bool false,undef,FV (rt a),.bool true,FV (rt a),FV (-(rt a)),undef]) (fun L=>[(L0.b 0,FC a),(L0.b 1,FC 0),(L1.b 7,FC (-(rt a)))]) hp4 ⟨
  oL 2 0 rF,oR (ref0neg (rt a)),oT rF,
  trivial⟩ (fun L4 w5 hp5=>?_)
 refine k5 _ _ ?_
 refine sgs [.det (FV (-(rt a))),.store (.base 1) 0 (FC (-(rt a))) (FC (-(rt a))),.det (.bool true)] [0,1,2] [0,1,3] (fun L=>[FV a,L0.p 0,L0.p 1,.bool true,L1.p 7,FV a,(L1.v 1),(L1.v 2),(L1.v 3),(L1.v 4),(L1.v 5),FV (rt a),FV (rt a),FV (rt a),FV ((rt a)*(rt a)),FV a,.bool false,undef,FV (rt a),.bool true,FV (rt a),FV (-(rt a)),FV (-(rt a))]) (fun L=>[(L0.b 0,FC a),(L0.b 1,FC (-(rt a))),(L1.b 7,FC (-(rt a)))]) hp5 ⟨
  oL 2 0 rF,oT rF,oA,
  trivial⟩ (fun L5 w6 hp6=>?_)
 refine wp_ret ?_
 refine bodyPost_ret (v:=.tuple #[FV (-(rt a)),.bool true]) ?_ rfl ?_
 ·exact rct rF rfl (by kernel_rfl) (by kernel_rfl) (hp6.bound 1 rfl).2
 ·exact ⟨rfl,hp6.bel⟩
theorem ref0sqrt (a:F) (w:World):Calls Tryz.prog 38 #[FV a] w (Ret (.tuple #[FV (root a),.bool (isq a)]) w):=by
 by_cases h:rt a*rt a=a
 ·have hq:isq a=true:=decide_eq_true h
  unfold root
  rw [if_pos hq,hq]
  cases hgr:great (rt a) with
  | false=>rw [if_neg (by decide)];exact sqrt1 a w h hgr
  | true=>rw [if_pos rfl];exact sqrt2 a w h hgr
 ·have hq:isq a=false:=decide_eq_false h
  unfold root
  rw [if_neg (by rw [hq];decide),hq]
  exact sqrt0 a w h
theorem refK:RefK where
 add:=fun a b w _=>ret0 (addR_any (lb a.val) (lb b.val) w (lb_rg _ _) (lb_rg _ _) (lt_RI a) (lt_RI b)) (by rw [lbF,lbF,val_add])
 sub:=fun a b w _=>ret0 (subR_any (lb a.val) (lb b.val) w (lb_rg _ _) (lb_rg _ _) (lt_RI a) (lt_RI b)) (by rw [lbF,lbF,val_sub])
 mul:=fun a b w _=>ret0 (mulR_any (lb a.val) (lb b.val) w (lb_rg _ _) (lb_rg _ _) (lt_RI b)) (by rw [lbF,lbF,val_mul])
 neg:=fun a w _=>ret0 (negR_any (lb a.val) w (lb_rg _ _) (lt_RI a)) (by rw [lbF,val_neg])
 of:=fun n w hn _=>Calls.mono (refOf_any n w) fun e w' ⟨he,hb⟩=>⟨he.trans (congrArg _ (agg_of (h:=one n) (one_rg ⟨by omega,by rw [B64_eq];omega⟩ 6) (by rw [val_one4];exact small hn))),hb⟩
 inv:=fun a w _ h=>ret3 (invR_any (lb a.val) w (lb_rg _ _) (lt_RI a) (by rw [lbF];exact ne_zero h)) (by rw [lbF,val_finv])
 inv0:=fun w _=>invR_zero (lb (0:F).val) w (lb_rg _ _) (by rw [lbF];rfl)
 may:=fun f w _ rf=>mayR_any f w rf
 great:=fun a w _=>by have h:=greatP_any (lb a.val) w (lb_rg _ _);rw [lbF,great_int] at h;exact h
 sqrt:=fun a w _=>ref0sqrt a w
end Go.Proofs.YtmibajbpimcfnaaGreatDoor.fpn
/- The base field: powers, squares, roots, which of two opposites is Great. No program is named here. -/
namespace Go.Proofs.YtmibajbpimcfnaaGreatDoor.fpn
def fpow (a:F) (n:Nat):F:=Fin.ofNat RN (a.val^n)
theorem fpow_val (a:F) (n:Nat):(fpow a n).val=a.val^n%RN:=rfl
theorem fpow_add (a:F) (m n:Nat):fpow a (m+n)=fpow a m*fpow a n:=Fin.ext (by
 rw [Fin.val_mul,fpow_val,fpow_val,fpow_val,Nat.pow_add,Nat.mul_mod])
theorem fpow_mul (a b:F) (n:Nat):fpow (a*b) n=fpow a n*fpow b n:=Fin.ext (by
 rw [Fin.val_mul,fpow_val,fpow_val,fpow_val,Fin.val_mul,← Nat.pow_mod,Nat.mul_pow,Nat.mul_mod])
theorem fpow_one (a:F):fpow a 1=a:=Fin.ext (by rw [fpow_val,Nat.pow_one,Nat.mod_eq_of_lt a.isLt])
theorem fpow_two (a:F):fpow a 2=a*a:=by rw [show (2:Nat)=1+1 from rfl,fpow_add,fpow_one]
theorem fpow_pow (a:F) (m n:Nat):fpow (fpow a m) n=fpow a (m*n):=Fin.ext (by
 rw [fpow_val,fpow_val,fpow_val,← Nat.pow_mod,← Nat.pow_mul])
theorem one_val:((1:F).val:Int)=1:=by kernel_rfl
theorem fermatF {a:F} (h:a≠0):fpow a (RN-1)=1:=by
 refine ext_int ?_
 have h0:(a.val:Int)≠0:=fun e=>h (Fin.ext (by
  have:a.val=0:=by omega
  rw [this];rfl))
 have:=fermatI (A:=(a.val:Int)) (by omega) h0 (by rw [RI_RN];have:=a.isLt;omega)
 rw [RI_RN,← cast_pow_mod] at this
 rw [fpow_val,one_val]
 exact this
theorem no_zero {a b:F} (h:a*b=0):a=0∨b=0:=by
 by_cases h0:a=0
 ·exact .inl h0
 ·refine .inr ?_
  have:=finv_mul h0
  have e:b=finv a*(a*b):=by grind
  rw [e,h];grind
theorem sq_eq {a b:F} (h:a*a=b*b):a=b∨a=-b:=by
 have:(a-b)*(a+b)=0:=by grind
 rcases no_zero this with h | h
 ·exact .inl (by grind)
 ·exact .inr (by grind)
theorem two_ne:(2:F)≠0:=fun h=>absurd (congrArg Fin.val h) (by decide +kernel)
theorem neg_one_ne:(-1:F)≠1:=fun h=>absurd (congrArg Fin.val h) (by decide +kernel)
def eul (a:F):F:=fpow a ((RN-1) / 2)
theorem eul_sq {a:F} (h:a≠0):eul a*eul a=1:=by
 unfold eul
 rw [← fpow_add,show (RN-1) / 2+(RN-1) / 2=RN-1 by decide +kernel]
 exact fermatF h
theorem eul_or {a:F} (h:a≠0):eul a=1∨eul a=-1:=sq_eq (by rw [eul_sq h];grind)
theorem rt_sq (a:F):rt a*rt a=a*eul a:=by
 have:rt a=fpow a SE:=rt_eq a
 rw [this]
 unfold eul
 rw [← fpow_add,show SE+SE=1+(RN-1) / 2 by decide +kernel,fpow_add,fpow_one]
theorem eul_neg_one:eul (-1)=-1:=by
 refine ext_int ?_
 unfold eul
 have h:((-1:F).val:Nat)=RN-1:=by kernel_rfl
 rw [fpow_val,h]
 have:pm RN (RN-1) 384 ((RN-1) / 2)=RN-1:=by decide +kernel
 rw [← pm_eq RN (RN-1) 384 ((RN-1) / 2) (by decide +kernel),this]
theorem eul_mul (a b:F):eul (a*b)=eul a*eul b:=fpow_mul a b _
theorem eul_neg (a:F):eul (-a)=-eul a:=by
 rw [show -a=-1*a by grind,eul_mul,eul_neg_one];grind
theorem isq_iff {a:F} (h:a≠0):isq a=true↔eul a=1:=by
 unfold isq
 rw [decide_eq_true_eq,rt_sq]
 refine ⟨fun e=>?_,fun e=>by rw [e];grind⟩
 have h1:=finv_mul h
 have:finv a*(a*eul a)=finv a*a:=by rw [e]
 grind
theorem isq_zero:isq 0=true:=by
 unfold isq
 rw [decide_eq_true_eq,rt_sq];grind
theorem isq_of {a r:F} (h:r*r=a):isq a=true:=by
 by_cases h0:a=0
 ·rw [h0];exact isq_zero
 ·rw [isq_iff h0]
  have hr:r≠0:=fun e=>h0 (by rw [← h,e];grind)
  rw [← h,eul_mul,eul_sq hr]
theorem isq_neg {a:F} (h:isq a=false):isq (-a)=true:=by
 have h0:a≠0:=fun e=>by rw [e,isq_zero] at h;cases h
 have hn:-a≠0:=fun e=>h0 (by grind)
 rw [isq_iff hn,eul_neg]
 rcases eul_or h0 with e | e
 ·rw [(isq_iff h0).2 e] at h;cases h
 ·rw [e];grind
theorem isq_not {a:F} (h0:a≠0) (h:isq a=true):isq (-a)=false:=by
 have hn:-a≠0:=fun e=>h0 (by grind)
 cases hq:isq (-a) with
 | false=>rfl
 | true =>
  rw [isq_iff hn,eul_neg,(isq_iff h0).1 h] at hq
  exact absurd hq neg_one_ne
theorem isq_mul {a b:F} (ha:isq a=true) (hb:isq b=true):isq (a*b)=true:=by
 unfold isq at ha hb
 rw [decide_eq_true_eq] at ha hb
 exact isq_of (r:=rt a*rt b) (by rw [← ha,← hb];grind)
theorem isq_mulN {a b:F} (ha:isq a=false) (hb:isq b=false):isq (a*b)=true:=by
 have h1:=isq_mul (isq_neg ha) (isq_neg hb)
 rwa [show -a*-b=a*b by grind] at h1
theorem great_neg {a:F} (h:a≠0):great (-a)=!great a:=by
 have h0:a.val≠0:=fun e=>h (Fin.ext (by rw [e];rfl))
 have h1:(-a).val=RN-a.val:=by
  have h2:=val_neg a
  have:=a.isLt
  rw [RI_RN] at h2
  have h3:(0-(a.val:Int))%(RN:Int)=(RN:Int)-a.val:=by
   rw [← Int.add_emod_right,Int.emod_eq_of_lt (by omega) (by omega)];omega
  omega
 have:=a.isLt
 have hodd:RN / 2+RN / 2+1=RN:=by decide +kernel
 unfold great
 rw [h1]
 by_cases hg:RN / 2<a.val
 ·rw [decide_eq_true hg,decide_eq_false (by omega)];rfl
 ·rw [decide_eq_false hg,decide_eq_true (by omega)];rfl
theorem great_zero:great 0=false:=by kernel_rfl
theorem root_sq {a:F} (h:isq a=true):root a*root a=a:=by
 have h1:rt a*rt a=a:=by unfold isq at h;exact of_decide_eq_true h
 unfold root
 rw [if_pos h]
 split
 ·rw [show -rt a*-rt a=rt a*rt a by grind];exact h1
 ·exact h1
theorem root_low (a:F):great (root a)=false:=by
 unfold root
 split
 ·split
  ·rename_i hg
   have:rt a≠0:=fun e=>by rw [e,great_zero] at hg;cases hg
   rw [great_neg this,hg];rfl
  ·rename_i hg;simpa using hg
 ·exact great_zero
theorem root_ne {a:F} (h:isq a=true) (h0:a≠0):root a≠0:=fun e=>h0 (by
 have:=root_sq h;rw [e] at this;rw [← this];grind)
theorem isq_neq {a:F} (h:isq a=false):a≠0:=fun e=>by rw [e,isq_zero] at h;cases h
theorem sum_sq {a b:F} (h:a*a+b*b=0):a=0∧b=0:=by
 by_cases hb:b=0
 ·refine ⟨?_,hb⟩
  rw [hb] at h
  have:a*a=0:=by grind
  rcases no_zero this with h | h<;>exact h
 ·exfalso
  have h1:isq (b*b)=true:=isq_of rfl
  have hbb:b*b≠0:=fun e=>by rcases no_zero e with h | h<;>exact hb h
  have h2:=isq_not hbb h1
  have h3:isq (-(b*b))=true:=isq_of (r:=a) (by grind)
  rw [h2] at h3;cases h3
end Go.Proofs.YtmibajbpimcfnaaGreatDoor.fpn
/- Pairs: a field; squares and roots. No program is named here. -/
namespace Go.Proofs.YtmibajbpimcfnaaGreatDoor.fpn
namespace F2
theorem norm_zero {x:F2} (h:x.norm=0):x=0:=by
 obtain ⟨h0,h1⟩:=sum_sq (a:=x.c0) (b:=x.c1) h
 exact ext' h0 h1
theorem norm_ne {x:F2} (h:x≠0):x.norm≠0:=fun e=>h (norm_zero e)
theorem norm_of_zero:(0:F2).norm=0:=by kernel_rfl
theorem norm_mul (x y:F2):(x*y).norm=x.norm*y.norm:=by unfold norm;simp only [mul_c0,mul_c1];grind
theorem mul_comm' (x y:F2):x*y=y*x:=ext' (by simp only [mul_c0];grind) (by simp only [mul_c1];grind)
theorem mul_assoc' (x y z:F2):x*(y*z)=x*y*z:=ext' (by simp only [mul_c0,mul_c1];grind) (by simp only [mul_c0,mul_c1];grind)
theorem add_mul' (x y z:F2):(x+y)*z=x*z+y*z:=ext' (by simp only [mul_c0,add_c0,add_c1];grind) (by simp only [mul_c1,add_c0,add_c1];grind)
theorem one_mul' (x:F2):1*x=x:=ext' (by simp only [mul_c0,one_c0,one_c1];grind) (by simp only [mul_c1,one_c0,one_c1];grind)
theorem neg_mul_neg' (x y:F2):-x*-y=x*y:=ext' (by simp only [mul_c0,neg_c0,neg_c1];grind) (by simp only [mul_c1,neg_c0,neg_c1];grind)
theorem inv_mul {x:F2} (h:x≠0):x*x.inv=1:=by
 have hn:=finv_mul (norm_ne h)
 unfold inv
 refine ext' ?_ ?_
 ·simp only [mul_c0,one_c0];unfold norm at hn ⊢;grind
 ·simp only [mul_c1,one_c1];grind
theorem no_zero' {x y:F2} (h:x*y=0):x=0∨y=0:=by
 have:x.norm*y.norm=0:=by rw [← norm_mul,h,norm_of_zero]
 rcases no_zero this with h | h
 ·exact .inl (norm_zero h)
 ·exact .inr (norm_zero h)
theorem sq_eq' {x y:F2} (h:x*x=y*y):x=y∨x=-y:=by
 have e:(x-y)*(x+y)=0:=by
  have h0:x.c0*x.c0-x.c1*x.c1=y.c0*y.c0-y.c1*y.c1:=congrArg F2.c0 h
  have h1:x.c0*x.c1+x.c1*x.c0=y.c0*y.c1+y.c1*y.c0:=congrArg F2.c1 h
  refine ext' ?_ ?_
  ·simp only [mul_c0,sub_c0,sub_c1,add_c0,add_c1,zero_c0];grind
  ·simp only [mul_c1,sub_c0,sub_c1,add_c0,add_c1,zero_c1];grind
 rcases no_zero' e with h | h
 ·left
  have h0:x.c0-y.c0=0:=congrArg F2.c0 h
  have h1:x.c1-y.c1=0:=congrArg F2.c1 h
  exact ext' (by grind) (by grind)
 ·right
  have h0:x.c0+y.c0=0:=congrArg F2.c0 h
  have h1:x.c1+y.c1=0:=congrArg F2.c1 h
  exact ext' (by simp only [neg_c0];grind) (by simp only [neg_c1];grind)
theorem great_neg' {x:F2} (h:x≠0):(-x).great=!x.great:=by
 unfold great
 simp only [neg_c0,neg_c1]
 by_cases h1:x.c1=0
 ·have h0:x.c0≠0:=fun e=>h (ext' e h1)
  rw [if_pos h1,if_pos (by rw [h1];grind),fpn.great_neg h0]
 ·rw [if_neg h1,if_neg (fun e=>h1 (by grind)),fpn.great_neg h1]
theorem great_zero':(0:F2).great=false:=by
 unfold great
 rw [if_pos (show (0:F2).c1=0 from rfl)];exact fpn.great_zero
theorem root_uniq {r s:F2} (h:r*r=s*s) (hr:r.great=false) (hs:s.great=false):r=s:=by
 rcases sq_eq' h with e | e
 ·exact e
 ·by_cases h0:s=0
  ·rw [e,h0];exact ext' (by simp only [neg_c0,zero_c0];grind) (by simp only [neg_c1,zero_c1];grind)
  ·rw [e,great_neg' h0,hs] at hr;cases hr
noncomputable def is2 (a:F2):Bool:=@decide (∃ r:F2,r*r=a) (Classical.propDecidable _)
noncomputable def sq2 (a:F2):F2:=@dite _ (∃ r:F2,r*r=a∧r.great=false) (Classical.propDecidable _) (fun h=>Classical.choose h) (fun _=>0)
theorem sq2_of {a r:F2} (h:r*r=a) (hg:r.great=false):sq2 a=r:=by
 have hx:∃ r:F2,r*r=a∧r.great=false:=⟨r,h,hg⟩
 unfold sq2
 rw [dif_pos hx]
 have hc:=Classical.choose_spec hx
 exact root_uniq (by rw [hc.1,h]) hc.2 hg
theorem is2_of {a r:F2} (h:r*r=a):is2 a=true:=by unfold is2;exact @decide_eq_true _ (Classical.propDecidable _) ⟨r,h⟩
theorem is2_no {a:F2} (h:∀ r:F2,r*r≠a):is2 a=false∧sq2 a=0:=by
 refine ⟨by unfold is2;exact @decide_eq_false _ (Classical.propDecidable _) (fun ⟨r,hr⟩=>h r hr),?_⟩
 unfold sq2
 rw [dif_neg (fun ⟨r,hr,_⟩=>h r hr)]
theorem norm_sq {a r:F2} (h:r*r=a):isq a.norm=true:=by
 rw [← h,norm_mul];exact isq_of rfl
theorem halve {i s c:F} (hi:2*i=1) (e:2*s=2*c):s=c:=by
 have h1:s=i*(2*s):=by grind
 have h2:c=i*(2*c):=by grind
 rw [h1,h2,e]
theorem sum2 {t t' c n:F} (ht:t+t=c+n) (ht':t'+t'=c-n):(2:F)*(t+t')=2*c:=by grind
theorem prod4 {t t' c n d:F} (ht:t+t=c+n) (ht':t'+t'=c-n) (hn:n*n=c*c+d*d):4*(t*t')=-(d*d):=by
 have:4*(t*t')=(t+t)*(t'+t'):=by grind
 rw [this,ht,ht'];grind
theorem cross {a:F2} {n t t':F} (h1:a.c1≠0) (hn:n*n=a.norm) (ht:t+t=a.c0+n) (ht':t'+t'=a.c0-n) :
  t≠0∧t'≠0∧(isq t=true→isq t'=false)∧(isq t=false→isq t'=true)∧(t+t'=a.c0)∧(4*(t*t')=-(a.c1*a.c1)):=by
 have e4:4*(t*t')=-(a.c1*a.c1):=prod4 ht ht' hn
 have hcc:a.c1*a.c1≠0:=fun e=>by rcases no_zero e with h | h<;>exact h1 h
 have ht0:t≠0:=fun e=>hcc (by rw [e] at e4;grind)
 have ht0':t'≠0:=fun e=>hcc (by rw [e] at e4;grind)
 have hn4:isq (4*(t*t'))=false:=by rw [e4];exact isq_not hcc (isq_of rfl)
 have h4:∀ x:F,isq x=true→isq (4*x)=true:=fun x hx=>isq_of (r:=2*root x) (by
  have:=root_sq hx
  rw [show 2*root x*(2*root x)=4*(root x*root x) by grind,this])
 refine ⟨ht0,ht0',fun h=>?_,fun h=>?_,?_,e4⟩
 ·cases hq:isq t' with
  | false=>rfl
  | true=>rw [h4 _ (isq_mul h hq)] at hn4;cases hn4
 ·cases hq:isq t' with
  | true=>rfl
  | false=>rw [h4 _ (isq_mulN h hq)] at hn4;cases hn4
 ·exact halve (finv_mul two_ne) (sum2 ht ht')
theorem cross_root {a:F2} {t t' x h i:F} (hh:h+h=1) (hs:t+t'=a.c0) (h4:4*(t*t')=-(a.c1*a.c1)) (hx:x*x=t) (hi:x*i=1) :
  (⟨x,a.c1*h*i⟩:F2)*⟨x,a.c1*h*i⟩=a:=by
 refine ext' ?_ ?_
 ·show x*x-a.c1*h*i*(a.c1*h*i)=a.c0
  have e1:a.c1*h*i*(a.c1*h*i)=(a.c1*a.c1)*(h*h)*(i*i):=by grind
  have e2:a.c1*a.c1=-(4*(t*t')):=by rw [h4];grind
  have e3:4*(h*h)=1:=by
   have:(h+h)*(h+h)=1:=by rw [hh];grind
   grind
  have e4:t*(i*i)=1:=by rw [← hx];grind
  rw [e1,e2,← hs,hx]
  have:-(4*(t*t'))*(h*h)*(i*i)=-(4*(h*h))*(t*(i*i))*t':=by grind
  rw [this,e3,e4];grind
 ·show x*(a.c1*h*i)+a.c1*h*i*x=a.c1
  have:x*(a.c1*h*i)+a.c1*h*i*x=a.c1*(h+h)*(x*i):=by grind
  rw [this,hh,hi];grind
end F2
end Go.Proofs.YtmibajbpimcfnaaGreatDoor.fpn
/- Pairs: powers; the power by P is Conj. No program is named here. -/
namespace Go.Proofs.YtmibajbpimcfnaaGreatDoor.fpn
namespace F2
theorem add_assoc' (x y z:F2):x+y+z=x+(y+z):=ext' (by simp only [add_c0];grind) (by simp only [add_c1];grind)
theorem add_comm' (x y:F2):x+y=y+x:=ext' (by simp only [add_c0];grind) (by simp only [add_c1];grind)
theorem az (a z:F) (hz:z=0):a+z=a:=by grind
theorem add_zero' (x:F2):x+0=x:=ext' (az _ _ rfl) (az _ _ rfl)
theorem zero_add' (x:F2):0+x=x:=by rw [add_comm',add_zero']
def lift (a:F):F2:=⟨a,0⟩
theorem l1 (a b z:F) (hz:z=0):a*b-z*z=a*b:=by grind
theorem l2 (a b z:F) (hz:z=0):a*z+z*b=z:=by grind
theorem m1 (b z o:F) (hz:z=0) (ho:o=1):b*z-z*o=z∧b*o+z*z=b∧b*z-z*(-o)=z∧b*(-o)+z*z=-b:=⟨by grind,by grind,by grind,by grind⟩
theorem m2 (a c z o:F) (hz:z=0) (ho:o=1):a*(z+o)-z*(c+z)=a∧a*(c+z)+z*(z+o)=a*c∧a*(o+z)-z*(z+c)=a∧a*(z+c)+z*(o+z)=a*c:=⟨by grind,by grind,by grind,by grind⟩
theorem split (a c:F):lift a*((⟨0,c⟩:F2)+1)=⟨a,a*c⟩:=ext' (m2 a c 0 1 rfl rfl).1 (m2 a c 0 1 rfl rfl).2.1
end F2
end Go.Proofs.YtmibajbpimcfnaaGreatDoor.fpn
/- Commutative rings, and identities in them, reckoned out. No program is named here. -/
namespace Go.Proofs.YtmibajbpimcfnaaGreatDoor.Rn
set_option linter.unusedSectionVars false
class CR (α:Type) [Add α] [Mul α] [Neg α] [Sub α] [OfNat α 0] [OfNat α 1]:Prop where
 add_assoc:∀ a b c:α,a+b+c=a+(b+c)
 add_comm:∀ a b:α,a+b=b+a
 zero_add:∀ a:α,0+a=a
 neg_add:∀ a:α,-a+a=0
 sub_eq:∀ a b:α,a-b=a+-b
 mul_assoc:∀ a b c:α,a*b*c=a*(b*c)
 mul_comm:∀ a b:α,a*b=b*a
 one_mul:∀ a:α,1*a=a
 add_mul:∀ a b c:α,(a+b)*c=a*c+b*c
section
variable {α:Type} [Add α] [Mul α] [Neg α] [Sub α] [OfNat α 0] [OfNat α 1] [R:CR α]
theorem add_zero (a:α):a+0=a:=by rw [R.add_comm,R.zero_add]
theorem add_neg (a:α):a+-a=0:=by rw [R.add_comm,R.neg_add]
theorem mul_one (a:α):a*1=a:=by rw [R.mul_comm,R.one_mul]
theorem mul_add (a b c:α):a*(b+c)=a*b+a*c:=by rw [R.mul_comm,R.add_mul,R.mul_comm b,R.mul_comm c]
theorem cancel {a b c:α} (h:a+b=a+c):b=c:=by
 have:-a+(a+b)=-a+(a+c):=by rw [h]
 rw [← R.add_assoc,← R.add_assoc,R.neg_add,R.zero_add,R.zero_add] at this
 exact this
theorem zero_mul (a:α):0*a=0:=by
 refine cancel (a:=0*a) ?_
 rw [← R.add_mul,R.zero_add,add_zero]
theorem mul_zero (a:α):a*0=0:=by rw [R.mul_comm,zero_mul]
theorem neg_uniq {a b:α} (h:a+b=0):b=-a:=cancel (a:=a) (by rw [h,add_neg])
theorem neg_neg (a:α):- -a=a:=(neg_uniq (R.neg_add a)).symm
theorem neg_mul (a b:α):-a*b=-(a*b):=neg_uniq (by rw [← R.add_mul,add_neg,zero_mul])
theorem neg_zero:-(0:α)=0:=(neg_uniq (R.zero_add 0)).symm
theorem neg_add' (a b:α):-(a+b)=-a+-b:=(neg_uniq (by
 rw [R.add_assoc,R.add_comm b,R.add_assoc,R.neg_add,add_zero,add_neg])).symm
theorem add4 (a b c d:α):a+b+(c+d)=a+c+(b+d):=by
 rw [R.add_assoc,R.add_assoc,← R.add_assoc b,R.add_comm b c,R.add_assoc c]
theorem add_left (a b c:α):a+(b+c)=b+(a+c):=by rw [← R.add_assoc,R.add_comm a b,R.add_assoc]
theorem mul_left (a b c:α):a*(b*c)=b*(a*c):=by rw [← R.mul_assoc,R.mul_comm a b,R.mul_assoc]
def nc:Nat→α
 | 0=>0
 | n+1=>nc n+1
def zc:Int→α
 | .ofNat n=>nc n
 | .negSucc n=>-(nc (n+1))
theorem nc_add (a b:Nat):(nc (a+b):α)=nc a+nc b:=by
 induction b with
 | zero=>exact (add_zero _).symm
 | succ b ih =>
  show nc (a+b)+1=nc a+(nc b+1)
  rw [ih,R.add_assoc]
theorem nc_mul (a b:Nat):(nc (a*b):α)=nc a*nc b:=by
 induction b with
 | zero=>exact (mul_zero _).symm
 | succ b ih =>
  rw [Nat.mul_succ,nc_add,ih]
  show _=nc a*(nc b+1)
  rw [mul_add,mul_one]
theorem zc_neg (a:Int):(zc (-a):α)=-zc a:=by
 cases a with
 | ofNat n =>
  cases n with
  | zero=>exact neg_zero.symm
  | succ n=>rfl
 | negSucc n=>exact (neg_neg _).symm
theorem zc_sub (a b:Nat):(zc ((a:Int)-b):α)=nc a+-nc b:=by
 rcases Nat.le_total b a with h | h
 ·obtain ⟨k,rfl⟩:=Nat.exists_eq_add_of_le h
  rw [show ((b+k:Nat):Int)-b=(k:Nat) by omega]
  show nc k=nc (b+k)+-nc b
  rw [nc_add,R.add_comm (nc b),R.add_assoc,add_neg,add_zero]
 ·obtain ⟨k,rfl⟩:=Nat.exists_eq_add_of_le h
  rw [show (a:Int)-((a+k:Nat):Int)=-((k:Nat):Int) by omega,zc_neg]
  show -nc k=nc a+-nc (a+k)
  rw [nc_add,neg_add',← R.add_assoc,add_neg,R.zero_add]
theorem zc_add (a b:Int):(zc (a+b):α)=zc a+zc b:=by
 cases a with
 | ofNat a =>
  cases b with
  | ofNat b=>exact nc_add a b
  | negSucc b =>
   rw [show (Int.ofNat a+Int.negSucc b)=(a:Int)-((b+1:Nat):Int) by rw [Int.negSucc_eq];simp;omega,zc_sub];rfl
 | negSucc a =>
  cases b with
  | ofNat b =>
   rw [show (Int.negSucc a+Int.ofNat b)=(b:Int)-((a+1:Nat):Int) by rw [Int.negSucc_eq];simp;omega,zc_sub,R.add_comm];rfl
  | negSucc b =>
   rw [show (Int.negSucc a+Int.negSucc b)=-(((a+1)+(b+1):Nat):Int) by rw [Int.negSucc_eq,Int.negSucc_eq];omega,zc_neg]
   show -(nc ((a+1)+(b+1)))=-(nc (a+1))+-(nc (b+1))
   rw [nc_add,neg_add']
theorem zc_mul (a b:Int):(zc (a*b):α)=zc a*zc b:=by
 have key:∀ (n:Nat) (b:Int),(zc ((n:Int)*b):α)=nc n*zc b:=fun n b=>by
  cases b with
  | ofNat b=>exact nc_mul n b
  | negSucc b =>
   rw [show ((n:Int)*Int.negSucc b)=-((n*(b+1):Nat):Int) by rw [Int.negSucc_eq,Int.mul_neg];simp,zc_neg]
   show -(nc (n*(b+1)))=nc n*-(nc (b+1))
   rw [nc_mul,R.mul_comm (nc n) (-_),neg_mul,R.mul_comm (nc n)]
 cases a with
 | ofNat a=>exact key a b
 | negSucc a =>
  rw [show Int.negSucc a*b=-(((a+1:Nat):Int)*b) by rw [Int.negSucc_eq,Int.neg_mul];simp,zc_neg,key]
  show -(nc (a+1)*zc b)=-(nc (a+1))*zc b
  rw [neg_mul]
end
inductive E where
 | v (i:Nat)
 | k (n:Int)
 | o
 | a (x y:E)
 | m (x y:E)
 | n (x:E)
 | s (x y:E)
inductive Q where
 | c (n:Int)
 | x (i:Nat) (q r:Q)
 | u (p q:Q)
def Q.eq:Q→Q→Bool
 | .c a,.c b=>decide (a=b)
 | .x i q r,.x j q' r'=>Nat.beq i j && (Q.eq q q' && Q.eq r r')
 | _,_=>false
def Q.mk (i:Nat) (q r:Q):Q:=match q with
 | .c (.ofNat 0)=>r
 | _=>.x i q r
def Q.add:Nat→Q→Q→Q
 | 0,p,q=>.u p q
 | f+1,p,q=>match p,q with
  | .c a,.c b=>.c (a+b)
  | .c a,.x i q r=>.x i q (Q.add f (.c a) r)
  | .x i q r,.c a=>.x i q (Q.add f r (.c a))
  | .x i q r,.x j q' r'=>if Nat.blt i j then .x i q (Q.add f r (.x j q' r')) else if Nat.blt j i then .x j q' (Q.add f (.x i q r) r') else Q.mk i (Q.add f q q') (Q.add f r r')
  | p,q=>.u p q
def Q.scale (k:Int):Q→Q
 | .c a=>.c (k*a)
 | .x i q r=>.x i (Q.scale k q) (Q.scale k r)
 | .u p q=>.u (Q.scale k p) (Q.scale k q)
def Q.mulX (i:Nat):Q→Q
 | .c (.ofNat 0)=>.c 0
 | .c a=>.x i (.c a) (.c 0)
 | .x j q r=>if Nat.blt j i then .x j (Q.mulX i q) (Q.mulX i r) else .x i (.x j q r) (.c 0)
 | .u p q=>.u (Q.mulX i p) (Q.mulX i q)
def Q.mul (f:Nat) (p:Q):Q→Q
 | .c (.ofNat 0)=>.c 0
 | .c a=>Q.scale a p
 | .x i q r=>Q.add f (Q.mulX i (Q.mul f p q)) (Q.mul f p r)
 | .u q r=>.u (Q.mul f p q) (Q.mul f p r)
def E.nf (f:Nat):E→Q
 | .v i=>.x i (.c 1) (.c 0)
 | .k j=>.c j
 | .o=>.c 1
 | .a x y=>Q.add f (x.nf f) (y.nf f)
 | .m x y=>Q.mul f (x.nf f) (y.nf f)
 | .n x=>Q.scale (-1) (x.nf f)
 | .s x y=>Q.add f (x.nf f) (Q.scale (-1) (y.nf f))
section
variable {α:Type} [Add α] [Mul α] [Neg α] [Sub α] [OfNat α 0] [OfNat α 1]
def E.ev (e:List α):E→α
 | .v i=>e.getD i 0
 | .k j=>zc j
 | .o=>1
 | .a x y=>x.ev e+y.ev e
 | .m x y=>x.ev e*y.ev e
 | .n x=>-x.ev e
 | .s x y=>x.ev e-y.ev e
def Q.ev (e:List α):Q→α
 | .c n=>zc n
 | .x i q r=>e.getD i 0*q.ev e+r.ev e
 | .u p q=>p.ev e+q.ev e
variable [R:CR α]
theorem zc_zero:(zc 0:α)=0:=rfl
theorem zc_one:(zc 1:α)=1:=R.zero_add 1
theorem Q.mk_ev (e:List α) (i:Nat) (q r:Q):(Q.mk i q r).ev e=e.getD i 0*q.ev e+r.ev e:=by
 unfold Q.mk
 split
 ·show r.ev e=_*(0:α)+r.ev e
  rw [mul_zero,R.zero_add]
 ·rfl
theorem Q.add_ev (e:List α):∀ (f:Nat) (p q:Q),(Q.add f p q).ev e=p.ev e+q.ev e:=by
 intro f
 induction f with
 | zero=>intro p q;rfl
 | succ f ih =>
  intro p q
  unfold Q.add
  split
  ·exact zc_add _ _
  ·simp only [Q.ev,ih];exact add_left _ _ _
  ·simp only [Q.ev,ih];exact (R.add_assoc _ _ _).symm
  ·split
   ·simp only [Q.ev,ih];exact (R.add_assoc _ _ _).symm
   ·split
    ·simp only [Q.ev,ih];exact add_left _ _ _
    ·rename_i i q r j q' r' h1 h2
     have hij:i=j:=by
      have h1':¬ i<j:=fun h=>h1 (by rw [Nat.blt_eq];exact h)
      have h2':¬ j<i:=fun h=>h2 (by rw [Nat.blt_eq];exact h)
      omega
     subst hij
     simp only [Q.mk_ev,Q.ev,ih,mul_add]
     exact add4 _ _ _ _
  ·rfl
theorem Q.scale_ev (e:List α) (k:Int):∀ p:Q,(Q.scale k p).ev e=zc k*p.ev e
 | .c a=>zc_mul _ _
 | .x i q r=>by simp only [Q.scale,Q.ev,Q.scale_ev e k q,Q.scale_ev e k r,mul_add];rw [mul_left]
 | .u p q=>by simp only [Q.scale,Q.ev,Q.scale_ev e k p,Q.scale_ev e k q,mul_add]
theorem Q.mulX_ev (e:List α) (i:Nat):∀ p:Q,(Q.mulX i p).ev e=e.getD i 0*p.ev e
 | .c (.ofNat 0)=>(mul_zero (α:=α) _).symm
 | .c (.ofNat (n+1))=>add_zero _
 | .c (.negSucc n)=>add_zero _
 | .x j q r=>by
  simp only [Q.mulX]
  split
  ·simp only [Q.ev,Q.mulX_ev e i q,Q.mulX_ev e i r,mul_add];rw [mul_left]
  ·simp only [Q.ev,zc_zero,add_zero]
 | .u p q=>by simp only [Q.mulX,Q.ev,Q.mulX_ev e i p,Q.mulX_ev e i q,mul_add]
theorem Q.mul_ev (e:List α) (f:Nat) (p:Q):∀ q:Q,(Q.mul f p q).ev e=p.ev e*q.ev e
 | .c (.ofNat 0)=>(mul_zero (α:=α) _).symm
 | .c (.ofNat (n+1))=>(Q.scale_ev e _ p).trans (R.mul_comm _ _)
 | .c (.negSucc n)=>(Q.scale_ev e _ p).trans (R.mul_comm _ _)
 | .x i q r=>by simp only [Q.mul,Q.add_ev,Q.mulX_ev,Q.ev,Q.mul_ev e f p q,Q.mul_ev e f p r,mul_add];rw [mul_left]
 | .u q r=>by simp only [Q.mul,Q.ev,Q.mul_ev e f p q,Q.mul_ev e f p r,mul_add]
theorem E.nf_ev (e:List α) (f:Nat):∀ x:E,(x.nf f).ev e=x.ev e
 | .v i=>by show e.getD i 0*zc 1+zc 0=_;rw [zc_one,mul_one,zc_zero,add_zero];rfl
 | .k j=>rfl
 | .o=>zc_one
 | .a x y=>by simp only [E.nf,E.ev,Q.add_ev,E.nf_ev e f x,E.nf_ev e f y]
 | .m x y=>by simp only [E.nf,E.ev,Q.mul_ev,E.nf_ev e f x,E.nf_ev e f y]
 | .n x=>by
  simp only [E.nf,E.ev,Q.scale_ev,E.nf_ev e f x]
  rw [show (zc (-1):α)=-zc 1 from zc_neg 1,zc_one,neg_mul,R.one_mul]
 | .s x y=>by
  simp only [E.nf,E.ev,Q.add_ev,Q.scale_ev,E.nf_ev e f x,E.nf_ev e f y]
  rw [show (zc (-1):α)=-zc 1 from zc_neg 1,zc_one,neg_mul,R.one_mul,R.sub_eq]
theorem Q.eq_ev (e:List α):∀ p q:Q,Q.eq p q=true→p.ev e=q.ev e
 | .c a,.c b,h=>by rw [of_decide_eq_true h]
 | .x i q r,.x j q' r',h=>by
  simp only [Q.eq,Bool.and_eq_true] at h
  rw [Nat.eq_of_beq_eq_true h.1,Q.ev,Q.ev,Q.eq_ev e q q' h.2.1,Q.eq_ev e r r' h.2.2]
 | .c _,.x ..,h=>by simp [Q.eq] at h
 | .c _,.u ..,h=>by simp [Q.eq] at h
 | .x ..,.c _,h=>by simp [Q.eq] at h
 | .x ..,.u ..,h=>by simp [Q.eq] at h
 | .u ..,.c _,h=>by simp [Q.eq] at h
 | .u ..,.x ..,h=>by simp [Q.eq] at h
 | .u ..,.u ..,h=>by simp [Q.eq] at h
theorem ring (e:List α) (x y:E) (h:Q.eq (x.nf 10000) (y.nf 10000)=true):x.ev e=y.ev e:=by
 rw [← E.nf_ev e 10000 x,← E.nf_ev e 10000 y];exact Q.eq_ev e _ _ h
end
end Go.Proofs.YtmibajbpimcfnaaGreatDoor.Rn
/- Threes of pairs and twos of those: their rings. No program is named here. -/
namespace Go.Proofs.YtmibajbpimcfnaaGreatDoor.fpn
open Rn
section
variable {α:Type} [Add α] [Mul α] [Neg α] [Sub α] [OfNat α 0] [OfNat α 1] [CR α]
end
theorem fneg_add (a z:F) (hz:z=0):-a+a=z:=by grind
theorem fsub_eq (a b:F):a-b=a+-b:=by grind
instance : CR F where
 add_assoc:=fun a b c=>by grind
 add_comm:=fun a b=>by grind
 zero_add:=fun a=>by grind
 neg_add:=fun a=>fneg_add a 0 rfl
 sub_eq:=fsub_eq
 mul_assoc:=fun a b c=>by grind
 mul_comm:=fun a b=>by grind
 one_mul:=fun a=>by grind
 add_mul:=fun a b c=>by grind
instance : CR F2 where
 add_assoc:=F2.add_assoc'
 add_comm:=F2.add_comm'
 zero_add:=F2.zero_add'
 neg_add:=fun a=>F2.ext' (fneg_add _ 0 rfl) (fneg_add _ 0 rfl)
 sub_eq:=fun a b=>F2.ext' (fsub_eq _ _) (fsub_eq _ _)
 mul_assoc:=fun a b c=>(F2.mul_assoc' a b c).symm
 mul_comm:=F2.mul_comm'
 one_mul:=F2.one_mul'
 add_mul:=F2.add_mul'
def xi:F2:=⟨1,1⟩
namespace F6
theorem o0 (a b c k:F2):1*a+k*(0*c+0*b)=a:=by rw [CR.one_mul,zero_mul,zero_mul,add_zero,mul_zero,add_zero]
theorem o1 (a b c k:F2):1*b+0*a+k*(0*c)=b:=by rw [CR.one_mul,zero_mul,zero_mul,mul_zero,add_zero,add_zero]
theorem u0 (a b c k:F2):c*k=a*0+k*(b*0+c*1):=by rw [mul_zero,mul_zero,CR.zero_add,CR.zero_add,mul_one,CR.mul_comm]
theorem u1 (a b c k:F2):a=a*1+b*0+k*(c*0):=by rw [mul_one,mul_zero,mul_zero,mul_zero,add_zero,add_zero]
theorem u2 (a b c:F2):b=a*0+b*1+c*0:=by rw [mul_one,mul_zero,mul_zero,CR.zero_add,add_zero]
end F6
end Go.Proofs.YtmibajbpimcfnaaGreatDoor.fpn
/- Threes of pairs and twos of those: their fields. No program is named here. -/
namespace Go.Proofs.YtmibajbpimcfnaaGreatDoor.fpn
open Rn
section
variable {α:Type} [Add α] [Mul α] [Neg α] [Sub α] [OfNat α 0] [OfNat α 1] [CR α]
end
theorem two_cube (c:F) (h:c*c*c=2):False:=by
 have h0:c≠0:=fun e=>by
  subst e
  exact absurd (congrArg Fin.val h) (by decide +kernel)
 have h1:=fermatF h0
 rw [show RN-1=3*((RN-1) / 3) by decide +kernel,← fpow_pow,show fpow c 3=2 by rw [show (3:Nat)=2+1 from rfl,fpow_add,fpow_one,fpow_two];exact h] at h1
 have h2:=congrArg Fin.val h1
 rw [fpow_val,show ((2:F).val)=2 by decide +kernel,← pm_eq RN 2 381 _ (by decide +kernel)] at h2
 exact absurd h2 (by decide +kernel)
theorem F2.one_ne:(1:F2)≠0:=fun h=>absurd (congrArg (fun x:F2=>x.c0.val) h) (by decide +kernel)
namespace F6
end F6
namespace F12
end F12
end Go.Proofs.YtmibajbpimcfnaaGreatDoor.fpn
