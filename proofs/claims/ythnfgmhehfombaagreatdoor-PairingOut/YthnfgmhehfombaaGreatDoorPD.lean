/- Texts laid together. -/
import Derived.Test.YthnfgmhehfombaaGreatDoorGO
set_option linter.unusedVariables false
set_option linter.unusedSimpArgs false
set_option maxRecDepth 4000
/- Scalars are held against 0. -/
namespace Go.Proofs.YthnfgmhehfombaaGreatDoor.fpn
open Go.RowKit Pl
theorem eqR4 (e:Nat) (a b c d a' b' c' d':Int) (w:World):(Op.equalIn (e+2) 27 (.agg #[.int .u64 a,.int .u64 b,.int .u64 c,.int .u64 d]) (.agg #[.int .u64 a',.int .u64 b',.int .u64 c',.int .u64 d'])).run Tryz.prog w=.ok (a == a' && (b == b' && (c == c' && d == d'))) w:=by
 have u3:=Tryz.underlying25
 have a3:=Tryz.isAgg25
 have z3:=Tryz.sizeOf25
 have hE:∀ (x y:Int) (w:World),(Op.equalIn (e+1) 25 (.int .u64 x) (.int .u64 y)).run Tryz.prog w=.ok (x == y) w:=fun x y w=>by
  rw [Op.equalIn.eq_def]
  simp [Sem.run_bind,run_underlying Tryz.underlying25]
 rw [show e+2=(e+1)+1 from rfl,Op.equalIn.eq_def]
 simp only [Sem.run_bind,run_underlying Tryz.underlying27,Result.andThen_ok]
 simp only [Std.Legacy.Range.forIn_eq_forIn_range',Std.Legacy.Range.size,Nat.sub_zero,Nat.add_sub_cancel,Nat.div_one,List.range'_succ,List.range'_zero,List.forIn_cons,List.forIn_nil]
 go_simp
 by_cases h1:a=a'
 ·by_cases h2:b=b'
  ·by_cases h3:c=c'
   ·by_cases h4:d=d'<;>simp [h1,h2,h3,h4]
   ·simp [h1,h2,h3]
  ·simp [h1,h2]
 ·simp [h1]
theorem guardR (op:BinOp) (x y:Operand) (cs ds:Array Value) (w:World):(eqGuard op 27 x y (.agg cs) (.agg ds)).run Tryz.prog w=.ok () w:=by
 unfold eqGuard
 cases op<;>simp [Sem.run_bind,run_underlying Tryz.underlying27]
theorem lb_zero {k:Nat} (hk:k<2^256) (h0:lb k 0=0) (h1:lb k 1=0) (h2:lb k 2=0) (h3:lb k 3=0):k=0:=by
 have e:val (lb k) 4=0:=by
  rw [show val (lb k) 4=val (fun _=>(0:Int)) 4 from val_congr fun i hi=>by
   rcases (show i=0∨i=1∨i=2∨i=3 by omega) with rfl | rfl | rfl | rfl
   ·exact h0
   ·exact h1
   ·exact h2
   ·exact h3]
  rfl
 rw [lbR hk] at e
 omega
theorem eqlR0 {k:Nat} (hk:k<2^256) (b:Bool) (h:decide (k=0)=b) (w:World):(binOp .eql 27 (RV k) (RV 0)).run Tryz.prog w=.ok (.bool b) w:=by
 have:=eqR4 9998 (lb k 0) (lb k 1) (lb k 2) (lb k 3) (lb 0 0) (lb 0 1) (lb 0 2) (lb 0 3) w
 have e:(lb k 0 == lb 0 0 && (lb k 1 == lb 0 1 && (lb k 2 == lb 0 2 && lb k 3 == lb 0 3)))=b:=by
  rw [← h]
  by_cases h0:k=0
  ·subst h0;simp
  ·rw [decide_eq_false h0]
   have z:∀ i,i<4→lb 0 i=0:=fun i _=>by unfold lb;rw [Nat.zero_div];rfl
   rw [z 0 (by decide),z 1 (by decide),z 2 (by decide),z 3 (by decide)]
   by_cases e0:lb k 0=0
   ·by_cases e1:lb k 1=0
    ·by_cases e2:lb k 2=0
     ·by_cases e3:lb k 3=0
      ·exact absurd (lb_zero hk e0 e1 e2 e3) h0
      ·simp [e0,e1,e2,e3]
     ·simp [e0,e1,e2]
    ·simp [e0,e1]
   ·simp [e0]
 rw [e] at this
 have this':(Op.equalIn 10000 27 (RV k) (RV 0)).run Tryz.prog w=.ok b w:=this
 unfold RV at *
 simp [binOp,Sem.run_bind,Op.equal,Op.maxDepth,this']
end Go.Proofs.YthnfgmhehfombaaGreatDoor.fpn
