/- Texts laid together. -/
import Derived.Test.YthnfgmhehfombaaGreatDoorGA
import Derived.Laws.StructEq
import Derived.Laws.IdiomArrays
import Derived.ProofKit
import Derived.WalkKit
import Derived.OpenShut
import Derived.ShutString
import Derived.ChangeOld
import Derived.Below
import Derived.Deep.RegionHeld3
set_option linter.unusedVariables false
set_option maxRecDepth 4000
set_option maxHeartbeats 4000000
/- Six cells of a block. -/
namespace Go.Proofs.YthnfgmhehfombaaGreatDoor
open Go.RowKit
theorem MutK.cells6 {k:IntKind} {w:World} {b:Nat} {f:Nat→Int} (h:MutK k w b 0 6 f) :
  w.cell? ⟨b,0,none⟩=some (.int k (f 0))∧w.cell? ⟨b,1,none⟩=some (.int k (f 1))∧w.cell? ⟨b,2,none⟩=some (.int k (f 2))∧w.cell? ⟨b,3,none⟩=some (.int k (f 3))∧w.cell? ⟨b,4,none⟩=some (.int k (f 4))∧w.cell? ⟨b,5,none⟩=some (.int k (f 5)) :=
 ⟨(h 0 (by omega)).1,(h 1 (by omega)).1,(h 2 (by omega)).1,(h 3 (by omega)).1,(h 4 (by omega)).1,(h 5 (by omega)).1⟩
theorem MutK.free6 {k:IntKind} {w:World} {b:Nat} {f:Nat→Int} (h:MutK k w b 0 6 f) :
  w.frozen? ⟨b,0,none⟩=false∧w.frozen? ⟨b,1,none⟩=false∧w.frozen? ⟨b,2,none⟩=false∧w.frozen? ⟨b,3,none⟩=false∧w.frozen? ⟨b,4,none⟩=false∧w.frozen? ⟨b,5,none⟩=false :=
 ⟨(h 0 (by omega)).2,(h 1 (by omega)).2,(h 2 (by omega)).2,(h 3 (by omega)).2,(h 4 (by omega)).2,(h 5 (by omega)).2⟩
theorem Fix.fp6 {w w':World} {v:Value} {x:Int} (h:Fix w w' v 6 x):Below w.heap.size w w'∧∃ p cap f,v=.slice p 6 cap∧At w' p 6 f∧Rg f 6∧val f 6=x:=by
 obtain ⟨h1,b,off,c,f,rfl,-,-,-,-,hm,hr,hv⟩:=h
 exact ⟨h1,_,c,f,rfl,hm.at,hr,hv⟩
end Go.Proofs.YthnfgmhehfombaaGreatDoor
/- Scalars as numbers and as values: R, four limbs in a block, how two are compared. -/
namespace Go.Proofs.YthnfgmhehfombaaGreatDoor
open Go.RowKit
attribute [local go_sem ↓] Go.wp_at_zero Go.wp_at_succ
def RI:Int:=52435875175126190479447740508185965837690552500527637822603658699938581184513
def rL:Nat→Int
 | 0=>18446744069414584321
 | 1=>6034159408538082302
 | 2=>3691218898639771653
 | 3=>8353516859464449352
 | _=>0
theorem rL_rg:Rg rL 4:=fun i hi=>by
 rcases (show i=0∨i=1∨i=2∨i=3 by omega) with rfl | rfl | rfl | rfl<;>rw [B64_eq]<;>decide
theorem rL_val:val rL 4=RI:=by decide +kernel
def frv (f:Nat→Int):Value:=.agg #[.int .u64 (f 0),.int .u64 (f 1),.int .u64 (f 2),.int .u64 (f 3)]
theorem mut_four (w:World) (f:Nat→Int) (t:TypeId):Mut (w.alloc (.cells #[.int .u64 (f 0),.int .u64 (f 1),.int .u64 (f 2),.int .u64 (f 3)] t)) w.heap.size 0 4 f:=fun j hj=>by
 rcases (show j=0∨j=1∨j=2∨j=3 by omega) with rfl | rfl | rfl | rfl<;>simp
theorem below_drew {w x:World} (h:Below w.drew.heap.size w.drew x):Below w.heap.size w x:=(show Below w.heap.size w w.drew from ⟨rfl,rfl,rfl,Nat.le_refl _,fun _ _=>rfl⟩).trans h
theorem mut_noughts (w:World) (t:TypeId):Mut (w.alloc (.cells #[.int .u64 0,.int .u64 0,.int .u64 0,.int .u64 0] t)) w.heap.size 0 4 Z:=mut_four w Z t
theorem mut_two (w:World) (t t':TypeId):Mut ((w.alloc (.cells #[.int .u64 0,.int .u64 0,.int .u64 0,.int .u64 0] t)).alloc (.cells #[.int .u64 0,.int .u64 0,.int .u64 0,.int .u64 0] t')) (w.heap.size+1) 0 4 Z ∧
  Mut ((w.alloc (.cells #[.int .u64 0,.int .u64 0,.int .u64 0,.int .u64 0] t)).alloc (.cells #[.int .u64 0,.int .u64 0,.int .u64 0,.int .u64 0] t')) w.heap.size 0 4 Z:=by
 refine ⟨?_,(mut_noughts w t).below (B:=(w.alloc (.cells #[.int .u64 0,.int .u64 0,.int .u64 0,.int .u64 0] t)).heap.size) (below_one _ _) (by rw [World.size_alloc];omega)⟩
 have:=mut_noughts (w.alloc (.cells #[.int .u64 0,.int .u64 0,.int .u64 0,.int .u64 0] t)) t'
 rwa [World.size_alloc] at this
theorem MutK.cells4 {k:IntKind} {w:World} {b:Nat} {f:Nat→Int} (h:MutK k w b 0 4 f) :
  w.cell? ⟨b,0,none⟩=some (.int k (f 0))∧w.cell? ⟨b,1,none⟩=some (.int k (f 1))∧w.cell? ⟨b,2,none⟩=some (.int k (f 2))∧w.cell? ⟨b,3,none⟩=some (.int k (f 3)) :=
 ⟨(h 0 (by omega)).1,(h 1 (by omega)).1,(h 2 (by omega)).1,(h 3 (by omega)).1⟩
theorem MutK.free4 {k:IntKind} {w:World} {b:Nat} {f:Nat→Int} (h:MutK k w b 0 4 f) :
  w.frozen? ⟨b,0,none⟩=false∧w.frozen? ⟨b,1,none⟩=false∧w.frozen? ⟨b,2,none⟩=false∧w.frozen? ⟨b,3,none⟩=false :=
 ⟨(h 0 (by omega)).2,(h 1 (by omega)).2,(h 2 (by omega)).2,(h 3 (by omega)).2⟩
theorem below_set4 {B b:Nat} {w x:World} (h:Below B w x) (hb:B≤b) (v0 v1 v2 v3:Value) :
  Below B w ((((x.setCell ⟨b,0,none⟩ v0).setCell ⟨b,1,none⟩ v1).setCell ⟨b,2,none⟩ v2).setCell ⟨b,3,none⟩ v3):=(((h.setCell hb _).setCell hb _).setCell hb _).setCell hb _
theorem size64:(Tryz.prog.info? 25).map (·.size)=some 1:=by kernel_rfl
theorem frv_lm (f:Nat→Int):frv (lm f 4)=frv f:=by
 unfold frv;rw [lm_in (by omega),lm_in (by omega),lm_in (by omega),lm_in (by omega)]
def IsFr (v:Value) (x:Int):Prop:=∃ f,v=.agg #[.int .u64 (f 0),.int .u64 (f 1),.int .u64 (f 2),.int .u64 (f 3)]∧Rg f 4∧val f 4=x
theorem val_Z (n:Nat):val Z n=0:=val_zero fun _ _=>rfl
theorem Z_rg (n:Nat):Rg Z n:=fun _ _=>⟨Int.le_refl _,B64_pos⟩
def pair (w:World) (f:Nat→Int) (t:TypeId):World :=
 (w.alloc (.cells #[.int .u64 (f 0),.int .u64 (f 1),.int .u64 (f 2),.int .u64 (f 3)] t)).alloc (.cells #[.int .u64 0,.int .u64 0,.int .u64 0,.int .u64 0] t)
theorem pair_all (w:World) (f:Nat→Int) (t:TypeId):Below w.heap.size w (pair w f t)∧(pair w f t).heap.size=w.heap.size+2∧Mut (pair w f t) w.heap.size 0 4 f∧Mut (pair w f t) (w.heap.size+1) 0 4 Z:=by
 unfold pair
 have m1:=mut_four w f t
 have m3:=mut_noughts (w.alloc (.cells #[.int .u64 (f 0),.int .u64 (f 1),.int .u64 (f 2),.int .u64 (f 3)] t)) t
 rw [World.size_alloc] at m3
 refine ⟨below_two _ _ _,by simp [World.size_alloc],?_,m3⟩
 exact m1.below (below_one _ _) (by rw [World.size_alloc];omega)
def three (w:World) (f g:Nat→Int) (t:TypeId):World :=
 ((w.alloc (.cells #[.int .u64 (f 0),.int .u64 (f 1),.int .u64 (f 2),.int .u64 (f 3)] t)).alloc (.cells #[.int .u64 (g 0),.int .u64 (g 1),.int .u64 (g 2),.int .u64 (g 3)] t)).alloc (.cells #[.int .u64 0,.int .u64 0,.int .u64 0,.int .u64 0] t)
theorem three_all (w:World) (f g:Nat→Int) (t:TypeId):Below w.heap.size w (three w f g t)∧(three w f g t).heap.size=w.heap.size+3∧At (three w f g t) (some ⟨w.heap.size,0,none⟩) 4 f∧At (three w f g t) (some ⟨w.heap.size+1,0,none⟩) 4 g∧Mut (three w f g t) (w.heap.size+2) 0 4 Z:=by
 unfold three
 have m1:=mut_four w f t
 have m2:=mut_four (w.alloc (.cells #[.int .u64 (f 0),.int .u64 (f 1),.int .u64 (f 2),.int .u64 (f 3)] t)) g t
 rw [World.size_alloc] at m2
 have m3:=mut_noughts ((w.alloc (.cells #[.int .u64 (f 0),.int .u64 (f 1),.int .u64 (f 2),.int .u64 (f 3)] t)).alloc (.cells #[.int .u64 (g 0),.int .u64 (g 1),.int .u64 (g 2),.int .u64 (g 3)] t)) t
 rw [World.size_alloc,World.size_alloc] at m3
 refine ⟨Below.up (below_two _ _ _) (Nat.le_refl _) (below_one _ _),by simp [World.size_alloc],?_,?_,m3⟩
 ·exact (m1.at.below (below_one _ _)).below (below_one _ _)
 ·exact m2.at.below (below_one _ _)
def cL:Nat→Int
 | 0=>14526898881837571181
 | 1=>3129137299524312099
 | 2=>419701826671360399
 | 3=>524908885293268753
 | _=>0
theorem cL_rg:Rg cL 4:=fun i hi=>by
 rcases (show i=0∨i=1∨i=2∨i=3 by omega) with rfl | rfl | rfl | rfl<;>rw [B64_eq]<;>decide
theorem cL_lt:val cL 4<val rL 4:=by decide +kernel
theorem cL_val:val cL 4%RI=pw 4*pw 4%RI:=by decide +kernel
def uI:Int:=12549076656233958353659347336803947287922716146853412054870763148006372261952
end Go.Proofs.YthnfgmhehfombaaGreatDoor
/- Numbers of the base field, as values: P, six limbs in a block, how two are compared. -/
namespace Go.Proofs.YthnfgmhehfombaaGreatDoor.fpn
open Go.RowKit
attribute [local go_sem ↓] Go.wp_at_zero Go.wp_at_succ
def RI:Int:=4002409555221667393417789825735904156556882819939007885332058136124031650490837864442687629129015664037894272559787
def rL:Nat→Int
 | 0=>13402431016077863595
 | 1=>2210141511517208575
 | 2=>7435674573564081700
 | 3=>7239337960414712511
 | 4=>5412103778470702295
 | 5=>1873798617647539866
 | _=>0
theorem rL_rg:Rg rL 6:=fun i hi=>by
 rcases (show i=0∨i=1∨i=2∨i=3∨i=4∨i=5 by omega) with rfl | rfl | rfl | rfl | rfl | rfl<;>rw [B64_eq]<;>decide
theorem rL_val:val rL 6=RI:=by decide +kernel
def frv (f:Nat→Int):Value:=.agg #[.int .u64 (f 0),.int .u64 (f 1),.int .u64 (f 2),.int .u64 (f 3),.int .u64 (f 4),.int .u64 (f 5)]
theorem mut_four (w:World) (f:Nat→Int) (t:TypeId):Mut (w.alloc (.cells #[.int .u64 (f 0),.int .u64 (f 1),.int .u64 (f 2),.int .u64 (f 3),.int .u64 (f 4),.int .u64 (f 5)] t)) w.heap.size 0 6 f:=fun j hj=>by
 rcases (show j=0∨j=1∨j=2∨j=3∨j=4∨j=5 by omega) with rfl | rfl | rfl | rfl | rfl | rfl<;>simp
theorem mut_noughts (w:World) (t:TypeId):Mut (w.alloc (.cells #[.int .u64 0,.int .u64 0,.int .u64 0,.int .u64 0,.int .u64 0,.int .u64 0] t)) w.heap.size 0 6 Z:=mut_four w Z t
theorem mut_two (w:World) (t t':TypeId):Mut ((w.alloc (.cells #[.int .u64 0,.int .u64 0,.int .u64 0,.int .u64 0,.int .u64 0,.int .u64 0] t)).alloc (.cells #[.int .u64 0,.int .u64 0,.int .u64 0,.int .u64 0,.int .u64 0,.int .u64 0] t')) (w.heap.size+1) 0 6 Z ∧
  Mut ((w.alloc (.cells #[.int .u64 0,.int .u64 0,.int .u64 0,.int .u64 0,.int .u64 0,.int .u64 0] t)).alloc (.cells #[.int .u64 0,.int .u64 0,.int .u64 0,.int .u64 0,.int .u64 0,.int .u64 0] t')) w.heap.size 0 6 Z:=by
 refine ⟨?_,(mut_noughts w t).below (B:=(w.alloc (.cells #[.int .u64 0,.int .u64 0,.int .u64 0,.int .u64 0,.int .u64 0,.int .u64 0] t)).heap.size) (below_one _ _) (by rw [World.size_alloc];omega)⟩
 have:=mut_noughts (w.alloc (.cells #[.int .u64 0,.int .u64 0,.int .u64 0,.int .u64 0,.int .u64 0,.int .u64 0] t)) t'
 rwa [World.size_alloc] at this
theorem below_set6 {B b:Nat} {w x:World} (h:Below B w x) (hb:B≤b) (v0 v1 v2 v3 v4 v5:Value) :
  Below B w ((((((x.setCell ⟨b,0,none⟩ v0).setCell ⟨b,1,none⟩ v1).setCell ⟨b,2,none⟩ v2).setCell ⟨b,3,none⟩ v3).setCell ⟨b,4,none⟩ v4).setCell ⟨b,5,none⟩ v5):=(((((h.setCell hb _).setCell hb _).setCell hb _).setCell hb _).setCell hb _).setCell hb _
theorem frv_lm (f:Nat→Int):frv (lm f 6)=frv f:=by
 unfold frv;rw [lm_in (by omega),lm_in (by omega),lm_in (by omega),lm_in (by omega),lm_in (by omega),lm_in (by omega)]
def IsFr (v:Value) (x:Int):Prop:=∃ f,v=.agg #[.int .u64 (f 0),.int .u64 (f 1),.int .u64 (f 2),.int .u64 (f 3),.int .u64 (f 4),.int .u64 (f 5)]∧Rg f 6∧val f 6=x
def pair (w:World) (f:Nat→Int) (t:TypeId):World :=
 (w.alloc (.cells #[.int .u64 (f 0),.int .u64 (f 1),.int .u64 (f 2),.int .u64 (f 3),.int .u64 (f 4),.int .u64 (f 5)] t)).alloc (.cells #[.int .u64 0,.int .u64 0,.int .u64 0,.int .u64 0,.int .u64 0,.int .u64 0] t)
theorem pair_all (w:World) (f:Nat→Int) (t:TypeId):Below w.heap.size w (pair w f t)∧(pair w f t).heap.size=w.heap.size+2∧Mut (pair w f t) w.heap.size 0 6 f∧Mut (pair w f t) (w.heap.size+1) 0 6 Z:=by
 unfold pair
 have m1:=mut_four w f t
 have m3:=mut_noughts (w.alloc (.cells #[.int .u64 (f 0),.int .u64 (f 1),.int .u64 (f 2),.int .u64 (f 3),.int .u64 (f 4),.int .u64 (f 5)] t)) t
 rw [World.size_alloc] at m3
 refine ⟨below_two _ _ _,by simp [World.size_alloc],?_,m3⟩
 exact m1.below (below_one _ _) (by rw [World.size_alloc];omega)
def three (w:World) (f g:Nat→Int) (t:TypeId):World :=
 ((w.alloc (.cells #[.int .u64 (f 0),.int .u64 (f 1),.int .u64 (f 2),.int .u64 (f 3),.int .u64 (f 4),.int .u64 (f 5)] t)).alloc (.cells #[.int .u64 (g 0),.int .u64 (g 1),.int .u64 (g 2),.int .u64 (g 3),.int .u64 (g 4),.int .u64 (g 5)] t)).alloc (.cells #[.int .u64 0,.int .u64 0,.int .u64 0,.int .u64 0,.int .u64 0,.int .u64 0] t)
theorem three_all (w:World) (f g:Nat→Int) (t:TypeId):Below w.heap.size w (three w f g t)∧(three w f g t).heap.size=w.heap.size+3∧At (three w f g t) (some ⟨w.heap.size,0,none⟩) 6 f∧At (three w f g t) (some ⟨w.heap.size+1,0,none⟩) 6 g∧Mut (three w f g t) (w.heap.size+2) 0 6 Z:=by
 unfold three
 have m1:=mut_four w f t
 have m2:=mut_four (w.alloc (.cells #[.int .u64 (f 0),.int .u64 (f 1),.int .u64 (f 2),.int .u64 (f 3),.int .u64 (f 4),.int .u64 (f 5)] t)) g t
 rw [World.size_alloc] at m2
 have m3:=mut_noughts ((w.alloc (.cells #[.int .u64 (f 0),.int .u64 (f 1),.int .u64 (f 2),.int .u64 (f 3),.int .u64 (f 4),.int .u64 (f 5)] t)).alloc (.cells #[.int .u64 (g 0),.int .u64 (g 1),.int .u64 (g 2),.int .u64 (g 3),.int .u64 (g 4),.int .u64 (g 5)] t)) t
 rw [World.size_alloc,World.size_alloc] at m3
 refine ⟨Below.up (below_two _ _ _) (Nat.le_refl _) (below_one _ _),by simp [World.size_alloc],?_,?_,m3⟩
 ·exact (m1.at.below (below_one _ _)).below (below_one _ _)
 ·exact m2.at.below (below_one _ _)
theorem RI_pos:0<RI:=by decide
theorem modR_lt (x:Int):x%RI<RI:=Int.emod_lt_of_pos _ RI_pos
theorem mut_set6 {w:World} {b:Nat} {f:Nat→Int} (h:Mut w b 0 6 f) (g:Nat→Int) :
  Mut ((((((w.setCell ⟨b,0,none⟩ (.int .u64 (g 0))).setCell ⟨b,1,none⟩ (.int .u64 (g 1))).setCell ⟨b,2,none⟩ (.int .u64 (g 2))).setCell ⟨b,3,none⟩ (.int .u64 (g 3))).setCell ⟨b,4,none⟩ (.int .u64 (g 4))).setCell ⟨b,5,none⟩ (.int .u64 (g 5))) b 0 6 g:=by
 refine MutK.congr ((((((h.set0 (i:=0) (by omega) (g 0)).set0 (i:=1) (by omega) (g 1)).set0 (i:=2) (by omega) (g 2)).set0 (i:=3) (by omega) (g 3)).set0 (i:=4) (by omega) (g 4)).set0 (i:=5) (by omega) (g 5)) fun j hj=>?_
 rcases (show j=0∨j=1∨j=2∨j=3∨j=4∨j=5 by omega) with rfl | rfl | rfl | rfl | rfl | rfl<;>simp [up]
def cL:Nat→Int
 | 0=>17644856173732828998
 | 1=>754043588434789617
 | 2=>10224657059481499349
 | 3=>7488229067341005760
 | 4=>11130996698012816685
 | 5=>1267921511277847466
 | _=>0
theorem cL_rg:Rg cL 6:=fun i hi=>by
 rcases (show i=0∨i=1∨i=2∨i=3∨i=4∨i=5 by omega) with rfl | rfl | rfl | rfl | rfl | rfl<;>rw [B64_eq]<;>decide
theorem cL_lt:val cL 6<val rL 6:=by decide +kernel
theorem cL_val:val cL 6%RI=pw 6*pw 6%RI:=by decide +kernel
def uI:Int:=3231460744492646417066832100176244795738767926513225105051837195607029917124509527734802654356338138714468589979680
theorem eqFr (a b c d p q a' b' c' d' p' q':Int) (w:World):(Op.equalIn 10000 30 (.agg #[.int .u64 a,.int .u64 b,.int .u64 c,.int .u64 d,.int .u64 p,.int .u64 q]) (.agg #[.int .u64 a',.int .u64 b',.int .u64 c',.int .u64 d',.int .u64 p',.int .u64 q'])).run Tryz.prog w=.ok (a == a' && (b == b' && (c == c' && (d == d' && (p == p' && q == q'))))) w:=by
 have u3:=Tryz.underlying25
 have a3:=Tryz.isAgg25
 have z3:=Tryz.sizeOf25
 rw [show (10000:Nat)=9999+1 from rfl,Op.equalIn]
 simp only [Sem.run_bind,run_underlying Tryz.underlying30,Result.andThen_ok]
 simp only [Std.Legacy.Range.forIn_eq_forIn_range',Std.Legacy.Range.size,Nat.sub_zero,Nat.add_sub_cancel,Nat.div_one,List.range'_succ,List.range'_zero,List.forIn_cons,List.forIn_nil]
 go_simp
 by_cases h1:a=a'
 ·by_cases h2:b=b'
  ·by_cases h3:c=c'
   ·by_cases h4:d=d'
    ·by_cases h5:p=p'
     ·by_cases h6:q=q'<;>simp [h1,h2,h3,h4,h5,h6]
     ·simp [h1,h2,h3,h4,h5]
    ·simp [h1,h2,h3,h4]
   ·simp [h1,h2,h3]
  ·simp [h1,h2]
 ·simp [h1]
theorem eqFr_run (f g:Nat→Int) (rf:Rg f 6) (rg:Rg g 6) (w:World):(Op.equalIn 10000 30 (.agg #[.int .u64 (f 0),.int .u64 (f 1),.int .u64 (f 2),.int .u64 (f 3),.int .u64 (f 4),.int .u64 (f 5)]) (.agg #[.int .u64 (g 0),.int .u64 (g 1),.int .u64 (g 2),.int .u64 (g 3),.int .u64 (g 4),.int .u64 (g 5)])).run Tryz.prog w=.ok (decide (val f 6=val g 6)) w:=by
 rw [eqFr]
 congr 1
 by_cases h:val f 6=val g 6
 ·have d:=digits rf rg h
  rw [d 0 (by omega),d 1 (by omega),d 2 (by omega),d 3 (by omega),d 4 (by omega),d 5 (by omega)];simp [h]
 ·rw [decide_eq_false h]
  rw [Bool.eq_false_iff]
  intro hc
  simp only [Bool.and_eq_true,beq_iff_eq] at hc
  apply h
  exact val_congr fun i hi=>by
   rcases (show i=0∨i=1∨i=2∨i=3∨i=4∨i=5 by omega) with rfl | rfl | rfl | rfl | rfl | rfl
   ·exact hc.1
   ·exact hc.2.1
   ·exact hc.2.2.1
   ·exact hc.2.2.2.1
   ·exact hc.2.2.2.2.1
   ·exact hc.2.2.2.2.2
def RN:Nat:=4002409555221667393417789825735904156556882819939007885332058136124031650490837864442687629129015664037894272559787
theorem RI_RN:RI=(RN:Int):=rfl
theorem val_one4 (x:Int):val (one x) 6=x:=by simp [val,one,pw]
end Go.Proofs.YthnfgmhehfombaaGreatDoor.fpn
/- What the document's answers to the scalars are, as numbers: R, fr, MayR, AddR, SubR, NegR, MulR, OfR. -/
namespace Go.Proofs.YthnfgmhehfombaaGreatDoor.fpn
open Go.RowKit
attribute [local go_sem ↓] Go.wp_at_zero Go.wp_at_succ
theorem rL_inv:nwt (rL 0) 6*rL 0%B64=1:=by decide +kernel
theorem refR_any (w:World):Calls Tryz.prog 76 #[] w fun e w'=>e=.returned (.slice (some ⟨w.heap.size,0,none⟩) 6 6)∧Below w.heap.size w w'∧w'.heap.size=w.heap.size+1∧Mut w' w.heap.size 0 6 rL:=by
 go_enter Tryz.func76,Tryz.ntmps76
 go_wp2
 go_ret
 exact ⟨rfl,below_one _ _,World.size_alloc _ _,mut_four w rL _⟩
theorem mayR_any (f:Nat→Int) (w:World) (rf:Rg f 6):Calls Tryz.prog 109 #[frv f] w fun e w'=>e=.returned (.bool (decide (val f 6<RI)))∧Below w.heap.size w w':=by
 unfold frv
 have hA:=mut_four w f 30
 have B1:=below_one w (.cells #[.int .u64 (f 0),.int .u64 (f 1),.int .u64 (f 2),.int .u64 (f 3),.int .u64 (f 4),.int .u64 (f 5)] 30)
 have z1:=World.size_alloc w (.cells #[.int .u64 (f 0),.int .u64 (f 1),.int .u64 (f 2),.int .u64 (f 3),.int .u64 (f 4),.int .u64 (f 5)] 30)
 go_enter Tryz.func109,Tryz.ntmps109
 go_wp2_with fail
 generalize w.alloc (.cells #[.int .u64 (f 0),.int .u64 (f 1),.int .u64 (f 2),.int .u64 (f 3),.int .u64 (f 4),.int .u64 (f 5)] 30)=W at *
 have HA:Hid _:=hA
 have HB1:Hid _:=B1
 have Z1:Hid _:=z1
 clear hA B1 z1
 go_region_with (first
  | (go_at_call 76;refine Calls.mono (refR_any _) ?_;rintro e w2 ⟨rfl,b2,z2,m2⟩;have HB2:Hid (Below W.heap.size W w2):=(by first | exact b2 | exact below_drew b2);have Z2:Hid _:=z2;have HM2:Hid _:=m2;clear b2 z2 m2)
  | (go_at_call 28;refine Calls.mono (below_any _ _ 6 6 6 6 f rL _ (by omega) (by omega) (AtK.below (MutK.at HA.out) HB2.out) (MutK.at HM2.out) rf rL_rg) ?_;rintro e w3 ⟨rfl,q,rfl⟩))
 all_goals
  go_wp2
  go_ret
  exact ⟨by rw [rL_val];rfl,below_draws (Below.up HB1.out (Nat.le_refl _) HB2.out) q⟩
theorem refFr_any (p:Option Addr) (n cap:Nat) (f:Nat→Int) (w:World) (hn:n≤6) (ha:At w p n f):Calls Tryz.prog 78 #[.slice p n cap] w fun e w'=>e=.returned (frv (lm f n))∧Below w.heap.size w w':=by
 obtain ⟨m1,m0⟩:=mut_two w 30 30
 have hB:=below_two w (.cells #[.int .u64 0,.int .u64 0,.int .u64 0,.int .u64 0,.int .u64 0,.int .u64 0] 30) (.cells #[.int .u64 0,.int .u64 0,.int .u64 0,.int .u64 0,.int .u64 0,.int .u64 0] 30)
 have ha':=ha.below hB
 go_enter Tryz.func78,Tryz.ntmps78
 go_wp2_with (refine wpList_copy_lim .u64 (by rfl) (.tmp 4) (.tmp 5) 54 54 (by rfl) 25 Tryz.underlying54 size64 (w.heap.size+1) 0 6 6 p n cap Z f (by rfl) (by rfl) m1 ha' hn ?_;intro w4 hu4 hm4;have k4:Mut w4 (w.heap.size+1) 0 6 (lm f n):=hm4;obtain ⟨x0,x1,x2,x3,x4,x5⟩:=k4.cells6;obtain ⟨y0,y1,y2,y3,y4,y5⟩:=(m0.upd hu4 (by omega)).cells6;obtain ⟨z0,z1,z2,z3,z4,z5⟩:=(m0.upd hu4 (by omega)).free6;have HU:Hid _:=hu4;have HB:Hid _:=hB;clear hm4 k4 m1 m0 hu4 hB ha ha')
 refine bodyPost_ret (v:=frv (lm f n)) (by simp [results,Tryz.results78,go_sem,frv,y0,y1,y2,y3,y4,y5]) rfl ⟨rfl,?_⟩
 exact ((((((Below.trans HB.out (Upd.below HU.out (by omega))).setCell (Nat.le_refl _) _).setCell (Nat.le_refl _) _).setCell (Nat.le_refl _) _).setCell (Nat.le_refl _) _).setCell (Nat.le_refl _) _).setCell (Nat.le_refl _) _
theorem refFr4_any (p:Option Addr) (cap:Nat) (f:Nat→Int) (w:World) (ha:At w p 6 f):Calls Tryz.prog 78 #[.slice p 6 cap] w fun e w'=>e=.returned (.agg #[.int .u64 (f 0),.int .u64 (f 1),.int .u64 (f 2),.int .u64 (f 3),.int .u64 (f 4),.int .u64 (f 5)])∧Below w.heap.size w w':=by
 have:=refFr_any p 6 cap f w (Nat.le_refl _) ha
 rw [frv_lm] at this
 exact this
theorem addR_any (f g:Nat→Int) (w:World) (rf:Rg f 6) (rg:Rg g 6) (lf:val f 6<RI) (lg:val g 6<RI) :
  Calls Tryz.prog 45 #[frv f,frv g] w fun e w'=>∃ v,e=.returned v∧IsFr v ((val f 6+val g 6)%RI)∧Below w.heap.size w w':=by
 rw [← rL_val] at lf lg ⊢
 unfold frv
 have LF:Hid _:=lf
 have LG:Hid _:=lg
 clear lf lg
 obtain ⟨B1,z1,hF,hG,hR⟩:=three_all w f g 30
 unfold three at B1 z1 hF hG hR
 go_enter Tryz.func45,Tryz.ntmps45
 go_wp2_with fail
 generalize ((w.alloc (.cells #[.int .u64 (f 0),.int .u64 (f 1),.int .u64 (f 2),.int .u64 (f 3),.int .u64 (f 4),.int .u64 (f 5)] 30)).alloc (.cells #[.int .u64 (g 0),.int .u64 (g 1),.int .u64 (g 2),.int .u64 (g 3),.int .u64 (g 4),.int .u64 (g 5)] 30)).alloc (.cells #[.int .u64 0,.int .u64 0,.int .u64 0,.int .u64 0,.int .u64 0,.int .u64 0] 30)=W at *
 have HB1:Hid _:=B1
 have Z1:Hid _:=z1
 have HF:Hid _:=hF
 have HG:Hid _:=hG
 have HR:Hid _:=hR
 clear B1 z1 hF hG hR
 go_region_with (first
  | (go_at_call 76;refine Calls.mono (refR_any _) ?_;rintro e w2 ⟨rfl,b2,-,m2⟩;have HB2:Hid (Below W.heap.size W w2):=(by first | exact b2 | exact below_drew b2);have HM2:Hid (At w2 (some ⟨W.heap.size,0,none⟩) 6 rL):=m2.at;clear b2 m2)
  | (go_at_call 32;refine Calls.mono (plus_any _ _ _ 6 6 6 6 f g rL _ (by omega) (by omega) (AtK.below HF.out HB2.out) (AtK.below HG.out HB2.out) HM2.out rf rg rL_rg LF.out LG.out) ?_;rintro e w3 ⟨v3,rfl,fx⟩;obtain ⟨b3,p3,c3,h3,rfl,a3,r3,v3⟩:=fx.fp6;have HB3:Hid _:=Below.up HB2.out (Nat.le_refl _) b3;have A3:Hid _:=a3;have R3:Hid _:=r3;have V3:Hid _:=v3;clear b3 a3 r3 v3 fx)
  | (go_at_call 78;refine Calls.mono (refFr4_any p3 c3 h3 _ A3.out) ?_;rintro e w4 ⟨rfl,b4⟩;have b5:Below W.heap.size W w4:=Below.up HB3.out (Nat.le_refl _) b4;obtain ⟨y0,y1,y2,y3,y4,y5⟩:=(MutK.below HR.out b5 (by rw [Z1.out];omega)).cells6;obtain ⟨z0,z1,z2,z3,z4,z5⟩:=(MutK.below HR.out b5 (by rw [Z1.out];omega)).free6;have HB4:Hid _:=Below.up HB1.out (Nat.le_refl _) b5;clear b4 b5))
 all_goals
  go_wp2
  refine bodyPost_ret (v:=.agg #[.int .u64 (h3 0),.int .u64 (h3 1),.int .u64 (h3 2),.int .u64 (h3 3),.int .u64 (h3 4),.int .u64 (h3 5)]) (by simp [results,Tryz.results45,go_sem,y0,y1,y2,y3,y4,y5]) rfl ⟨_,rfl,⟨h3,rfl,R3.out,V3.out⟩,?_⟩
  exact below_set6 HB4.out (by omega) _ _ _ _ _ _
theorem subR_any (f g:Nat→Int) (w:World) (rf:Rg f 6) (rg:Rg g 6) (lf:val f 6<RI) (lg:val g 6<RI) :
  Calls Tryz.prog 81 #[frv f,frv g] w fun e w'=>∃ v,e=.returned v∧IsFr v ((val f 6-val g 6)%RI)∧Below w.heap.size w w':=by
 rw [← rL_val] at lf lg ⊢
 unfold frv
 have LF:Hid _:=lf
 have LG:Hid _:=lg
 clear lf lg
 obtain ⟨B1,z1,hF,hG,hR⟩:=three_all w f g 30
 unfold three at B1 z1 hF hG hR
 go_enter Tryz.func81,Tryz.ntmps81
 go_wp2_with fail
 generalize ((w.alloc (.cells #[.int .u64 (f 0),.int .u64 (f 1),.int .u64 (f 2),.int .u64 (f 3),.int .u64 (f 4),.int .u64 (f 5)] 30)).alloc (.cells #[.int .u64 (g 0),.int .u64 (g 1),.int .u64 (g 2),.int .u64 (g 3),.int .u64 (g 4),.int .u64 (g 5)] 30)).alloc (.cells #[.int .u64 0,.int .u64 0,.int .u64 0,.int .u64 0,.int .u64 0,.int .u64 0] 30)=W at *
 have HB1:Hid _:=B1
 have Z1:Hid _:=z1
 have HF:Hid _:=hF
 have HG:Hid _:=hG
 have HR:Hid _:=hR
 clear B1 z1 hF hG hR
 go_region_with (first
  | (go_at_call 76;refine Calls.mono (refR_any _) ?_;rintro e w2 ⟨rfl,b2,-,m2⟩;have HB2:Hid (Below W.heap.size W w2):=(by first | exact b2 | exact below_drew b2);have HM2:Hid (At w2 (some ⟨W.heap.size,0,none⟩) 6 rL):=m2.at;clear b2 m2)
  | (go_at_call 60;refine Calls.mono (minus_any _ _ _ 6 6 6 6 f g rL _ (by omega) (by omega) (AtK.below HF.out HB2.out) (AtK.below HG.out HB2.out) HM2.out rf rg rL_rg LF.out LG.out) ?_;rintro e w3 ⟨v3,rfl,fx⟩;obtain ⟨b3,p3,c3,h3,rfl,a3,r3,v3⟩:=fx.fp6;have HB3:Hid _:=Below.up HB2.out (Nat.le_refl _) b3;have A3:Hid _:=a3;have R3:Hid _:=r3;have V3:Hid _:=v3;clear b3 a3 r3 v3 fx)
  | (go_at_call 78;refine Calls.mono (refFr4_any p3 c3 h3 _ A3.out) ?_;rintro e w4 ⟨rfl,b4⟩;have b5:Below W.heap.size W w4:=Below.up HB3.out (Nat.le_refl _) b4;obtain ⟨y0,y1,y2,y3,y4,y5⟩:=(MutK.below HR.out b5 (by rw [Z1.out];omega)).cells6;obtain ⟨z0,z1,z2,z3,z4,z5⟩:=(MutK.below HR.out b5 (by rw [Z1.out];omega)).free6;have HB4:Hid _:=Below.up HB1.out (Nat.le_refl _) b5;clear b4 b5))
 all_goals
  go_wp2
  refine bodyPost_ret (v:=.agg #[.int .u64 (h3 0),.int .u64 (h3 1),.int .u64 (h3 2),.int .u64 (h3 3),.int .u64 (h3 4),.int .u64 (h3 5)]) (by simp [results,Tryz.results81,go_sem,y0,y1,y2,y3,y4,y5]) rfl ⟨_,rfl,⟨h3,rfl,R3.out,V3.out⟩,?_⟩
  exact below_set6 HB4.out (by omega) _ _ _ _ _ _
theorem refOf_any (n:Int) (w:World):Calls Tryz.prog 43 #[.int .u64 n] w fun e w'=>e=.returned (.agg #[.int .u64 n,.int .u64 0,.int .u64 0,.int .u64 0,.int .u64 0,.int .u64 0])∧Below w.heap.size w w':=by
 go_enter Tryz.func43,Tryz.ntmps43
 go_wp2
 refine bodyPost_ret (v:=.agg #[.int .u64 n,.int .u64 0,.int .u64 0,.int .u64 0,.int .u64 0,.int .u64 0]) (by simp [results,Tryz.results43,go_sem]) rfl ⟨rfl,below_one _ _⟩
theorem negR_any (f:Nat→Int) (w:World) (rf:Rg f 6) (lf:val f 6<RI) :
  Calls Tryz.prog 50 #[frv f] w fun e w'=>∃ v,e=.returned v∧IsFr v ((0-val f 6)%RI)∧Below w.heap.size w w':=by
 have K:∀ W:World,Calls Tryz.prog 81 #[.agg #[.int .u64 0,.int .u64 0,.int .u64 0,.int .u64 0,.int .u64 0,.int .u64 0],.agg #[.int .u64 (f 0),.int .u64 (f 1),.int .u64 (f 2),.int .u64 (f 3),.int .u64 (f 4),.int .u64 (f 5)]] W fun e w'=>∃ v,e=.returned v∧IsFr v ((0-val f 6)%RI)∧Below W.heap.size W w':=fun W=>by
  have:=subR_any Z f W (Z_rg 6) rf (by rw [val_Z];decide) lf
  rw [val_Z] at this
  exact this
 have HK:Hid _:=K
 clear K
 unfold frv
 obtain ⟨B1,z1,-,hR⟩:=pair_all w f 30
 unfold pair at B1 z1 hR
 go_enter Tryz.func50,Tryz.ntmps50
 go_wp2_with fail
 generalize (w.alloc (.cells #[.int .u64 (f 0),.int .u64 (f 1),.int .u64 (f 2),.int .u64 (f 3),.int .u64 (f 4),.int .u64 (f 5)] 30)).alloc (.cells #[.int .u64 0,.int .u64 0,.int .u64 0,.int .u64 0,.int .u64 0,.int .u64 0] 30)=W at *
 refine Calls.mono (HK.out W) ?_
 rintro e w4 ⟨v,rfl,⟨h3,rfl,r3,v3⟩,b5⟩
 obtain ⟨y0,y1,y2,y3,y4,y5⟩:=(hR.below b5 (by rw [z1];omega)).cells6
 obtain ⟨z0,z1,z2,z3,z4,z5⟩:=(hR.below b5 (by rw [z1];omega)).free6
 have HB4:Hid _:=Below.up B1 (Nat.le_refl _) b5
 have R3:Hid _:=r3
 have V3:Hid _:=v3
 clear b5 r3 v3 hR B1
 go_wp2
 refine bodyPost_ret (v:=.agg #[.int .u64 (h3 0),.int .u64 (h3 1),.int .u64 (h3 2),.int .u64 (h3 3),.int .u64 (h3 4),.int .u64 (h3 5)]) (by simp [results,Tryz.results50,go_sem,y0,y1,y2,y3,y4,y5]) rfl ⟨_,rfl,⟨h3,rfl,R3.out,V3.out⟩,?_⟩
 exact below_set6 HB4.out (by omega) _ _ _ _ _ _
end Go.Proofs.YthnfgmhehfombaaGreatDoor.fpn
/- What the document's answers to the scalars are, as numbers: R, fr, MayR, AddR, SubR, NegR, MulR, OfR. -/
namespace Go.Proofs.YthnfgmhehfombaaGreatDoor
open Go.RowKit
attribute [local go_sem ↓] Go.wp_at_zero Go.wp_at_succ
theorem rL_inv:nwt (rL 0) 6*rL 0%B64=1:=by decide +kernel
theorem refR_any (w:World):Calls Tryz.prog 20 #[] w fun e w'=>e=.returned (.slice (some ⟨w.heap.size,0,none⟩) 4 4)∧Below w.heap.size w w'∧w'.heap.size=w.heap.size+1∧Mut w' w.heap.size 0 4 rL:=by
 go_enter Tryz.func20,Tryz.ntmps20
 go_wp2
 go_ret
 exact ⟨rfl,below_one _ _,World.size_alloc _ _,mut_four w rL _⟩
theorem mayR_any (f:Nat→Int) (w:World) (rf:Rg f 4):Calls Tryz.prog 8 #[frv f] w fun e w'=>e=.returned (.bool (decide (val f 4<RI)))∧Below w.heap.size w w':=by
 unfold frv
 have hA:=mut_four w f 27
 have B1:=below_one w (.cells #[.int .u64 (f 0),.int .u64 (f 1),.int .u64 (f 2),.int .u64 (f 3)] 27)
 have z1:=World.size_alloc w (.cells #[.int .u64 (f 0),.int .u64 (f 1),.int .u64 (f 2),.int .u64 (f 3)] 27)
 go_enter Tryz.func8,Tryz.ntmps8
 go_wp2_with fail
 generalize w.alloc (.cells #[.int .u64 (f 0),.int .u64 (f 1),.int .u64 (f 2),.int .u64 (f 3)] 27)=W at *
 have HA:Hid _:=hA
 have HB1:Hid _:=B1
 have Z1:Hid _:=z1
 clear hA B1 z1
 go_region_with (first
  | (go_at_call 20;refine Calls.mono (refR_any _) ?_;rintro e w2 ⟨rfl,b2,z2,m2⟩;have HB2:Hid (Below W.heap.size W w2):=(by first | exact b2 | exact below_drew b2);have Z2:Hid _:=z2;have HM2:Hid _:=m2;clear b2 z2 m2)
  | (go_at_call 28;refine Calls.mono (below_any _ _ 4 4 4 4 f rL _ (by omega) (by omega) (AtK.below (MutK.at HA.out) HB2.out) (MutK.at HM2.out) rf rL_rg) ?_;rintro e w3 ⟨rfl,q,rfl⟩))
 all_goals
  go_wp2
  go_ret
  exact ⟨by rw [rL_val];rfl,below_draws (Below.up HB1.out (Nat.le_refl _) HB2.out) q⟩
theorem refFr_any (p:Option Addr) (n cap:Nat) (f:Nat→Int) (w:World) (hn:n≤4) (ha:At w p n f):Calls Tryz.prog 31 #[.slice p n cap] w fun e w'=>e=.returned (frv (lm f n))∧Below w.heap.size w w':=by
 obtain ⟨m1,m0⟩:=mut_two w 27 27
 have hB:=below_two w (.cells #[.int .u64 0,.int .u64 0,.int .u64 0,.int .u64 0] 27) (.cells #[.int .u64 0,.int .u64 0,.int .u64 0,.int .u64 0] 27)
 have ha':=ha.below hB
 go_enter Tryz.func31,Tryz.ntmps31
 go_wp2_with (refine wpList_copy_lim .u64 (by rfl) (.tmp 4) (.tmp 5) 54 54 (by rfl) 25 Tryz.underlying54 size64 (w.heap.size+1) 0 4 4 p n cap Z f (by rfl) (by rfl) m1 ha' hn ?_;intro w4 hu4 hm4;have k4:Mut w4 (w.heap.size+1) 0 4 (lm f n):=hm4;obtain ⟨x0,x1,x2,x3⟩:=k4.cells4;obtain ⟨y0,y1,y2,y3⟩:=(m0.upd hu4 (by omega)).cells4;obtain ⟨z0,z1,z2,z3⟩:=(m0.upd hu4 (by omega)).free4;have HU:Hid _:=hu4;have HB:Hid _:=hB;clear hm4 k4 m1 m0 hu4 hB ha ha')
 refine bodyPost_ret (v:=frv (lm f n)) (by simp [results,Tryz.results31,go_sem,frv,y0,y1,y2,y3]) rfl ⟨rfl,?_⟩
 exact ((((Below.trans HB.out (Upd.below HU.out (by omega))).setCell (Nat.le_refl _) _).setCell (Nat.le_refl _) _).setCell (Nat.le_refl _) _).setCell (Nat.le_refl _) _
theorem Fix.fr {w w':World} {v:Value} {x:Int} (h:Fix w w' v 4 x):Below w.heap.size w w'∧∃ p cap f,v=.slice p 4 cap∧At w' p 4 f∧Rg f 4∧val f 4=x:=by
 obtain ⟨h1,b,off,c,f,rfl,-,-,-,-,hm,hr,hv⟩:=h
 exact ⟨h1,_,c,f,rfl,hm.at,hr,hv⟩
theorem refFr4_any (p:Option Addr) (cap:Nat) (f:Nat→Int) (w:World) (ha:At w p 4 f):Calls Tryz.prog 31 #[.slice p 4 cap] w fun e w'=>e=.returned (.agg #[.int .u64 (f 0),.int .u64 (f 1),.int .u64 (f 2),.int .u64 (f 3)])∧Below w.heap.size w w':=by
 have:=refFr_any p 4 cap f w (Nat.le_refl _) ha
 rw [frv_lm] at this
 exact this
theorem addR_any (f g:Nat→Int) (w:World) (rf:Rg f 4) (rg:Rg g 4) (lf:val f 4<RI) (lg:val g 4<RI) :
  Calls Tryz.prog 11 #[frv f,frv g] w fun e w'=>∃ v,e=.returned v∧IsFr v ((val f 4+val g 4)%RI)∧Below w.heap.size w w':=by
 rw [← rL_val] at lf lg ⊢
 unfold frv
 have LF:Hid _:=lf
 have LG:Hid _:=lg
 clear lf lg
 obtain ⟨B1,z1,hF,hG,hR⟩:=three_all w f g 27
 unfold three at B1 z1 hF hG hR
 go_enter Tryz.func11,Tryz.ntmps11
 go_wp2_with fail
 generalize ((w.alloc (.cells #[.int .u64 (f 0),.int .u64 (f 1),.int .u64 (f 2),.int .u64 (f 3)] 27)).alloc (.cells #[.int .u64 (g 0),.int .u64 (g 1),.int .u64 (g 2),.int .u64 (g 3)] 27)).alloc (.cells #[.int .u64 0,.int .u64 0,.int .u64 0,.int .u64 0] 27)=W at *
 have HB1:Hid _:=B1
 have Z1:Hid _:=z1
 have HF:Hid _:=hF
 have HG:Hid _:=hG
 have HR:Hid _:=hR
 clear B1 z1 hF hG hR
 go_region_with (first
  | (go_at_call 20;refine Calls.mono (refR_any _) ?_;rintro e w2 ⟨rfl,b2,-,m2⟩;have HB2:Hid (Below W.heap.size W w2):=(by first | exact b2 | exact below_drew b2);have HM2:Hid (At w2 (some ⟨W.heap.size,0,none⟩) 4 rL):=m2.at;clear b2 m2)
  | (go_at_call 32;refine Calls.mono (plus_any _ _ _ 4 4 4 4 f g rL _ (by omega) (by omega) (AtK.below HF.out HB2.out) (AtK.below HG.out HB2.out) HM2.out rf rg rL_rg LF.out LG.out) ?_;rintro e w3 ⟨v3,rfl,fx⟩;obtain ⟨b3,p3,c3,h3,rfl,a3,r3,v3⟩:=fx.fr;have HB3:Hid _:=Below.up HB2.out (Nat.le_refl _) b3;have A3:Hid _:=a3;have R3:Hid _:=r3;have V3:Hid _:=v3;clear b3 a3 r3 v3 fx)
  | (go_at_call 31;refine Calls.mono (refFr4_any p3 c3 h3 _ A3.out) ?_;rintro e w4 ⟨rfl,b4⟩;have b5:Below W.heap.size W w4:=Below.up HB3.out (Nat.le_refl _) b4;obtain ⟨y0,y1,y2,y3⟩:=(MutK.below HR.out b5 (by rw [Z1.out];omega)).cells4;obtain ⟨z0,z1,z2,z3⟩:=(MutK.below HR.out b5 (by rw [Z1.out];omega)).free4;have HB4:Hid _:=Below.up HB1.out (Nat.le_refl _) b5;clear b4 b5))
 all_goals
  go_wp2
  refine bodyPost_ret (v:=.agg #[.int .u64 (h3 0),.int .u64 (h3 1),.int .u64 (h3 2),.int .u64 (h3 3)]) (by simp [results,Tryz.results11,go_sem,y0,y1,y2,y3]) rfl ⟨_,rfl,⟨h3,rfl,R3.out,V3.out⟩,?_⟩
  exact below_set4 HB4.out (by omega) _ _ _ _
theorem subR_any (f g:Nat→Int) (w:World) (rf:Rg f 4) (rg:Rg g 4) (lf:val f 4<RI) (lg:val g 4<RI) :
  Calls Tryz.prog 34 #[frv f,frv g] w fun e w'=>∃ v,e=.returned v∧IsFr v ((val f 4-val g 4)%RI)∧Below w.heap.size w w':=by
 rw [← rL_val] at lf lg ⊢
 unfold frv
 have LF:Hid _:=lf
 have LG:Hid _:=lg
 clear lf lg
 obtain ⟨B1,z1,hF,hG,hR⟩:=three_all w f g 27
 unfold three at B1 z1 hF hG hR
 go_enter Tryz.func34,Tryz.ntmps34
 go_wp2_with fail
 generalize ((w.alloc (.cells #[.int .u64 (f 0),.int .u64 (f 1),.int .u64 (f 2),.int .u64 (f 3)] 27)).alloc (.cells #[.int .u64 (g 0),.int .u64 (g 1),.int .u64 (g 2),.int .u64 (g 3)] 27)).alloc (.cells #[.int .u64 0,.int .u64 0,.int .u64 0,.int .u64 0] 27)=W at *
 have HB1:Hid _:=B1
 have Z1:Hid _:=z1
 have HF:Hid _:=hF
 have HG:Hid _:=hG
 have HR:Hid _:=hR
 clear B1 z1 hF hG hR
 go_region_with (first
  | (go_at_call 20;refine Calls.mono (refR_any _) ?_;rintro e w2 ⟨rfl,b2,-,m2⟩;have HB2:Hid (Below W.heap.size W w2):=(by first | exact b2 | exact below_drew b2);have HM2:Hid (At w2 (some ⟨W.heap.size,0,none⟩) 4 rL):=m2.at;clear b2 m2)
  | (go_at_call 60;refine Calls.mono (minus_any _ _ _ 4 4 4 4 f g rL _ (by omega) (by omega) (AtK.below HF.out HB2.out) (AtK.below HG.out HB2.out) HM2.out rf rg rL_rg LF.out LG.out) ?_;rintro e w3 ⟨v3,rfl,fx⟩;obtain ⟨b3,p3,c3,h3,rfl,a3,r3,v3⟩:=fx.fr;have HB3:Hid _:=Below.up HB2.out (Nat.le_refl _) b3;have A3:Hid _:=a3;have R3:Hid _:=r3;have V3:Hid _:=v3;clear b3 a3 r3 v3 fx)
  | (go_at_call 31;refine Calls.mono (refFr4_any p3 c3 h3 _ A3.out) ?_;rintro e w4 ⟨rfl,b4⟩;have b5:Below W.heap.size W w4:=Below.up HB3.out (Nat.le_refl _) b4;obtain ⟨y0,y1,y2,y3⟩:=(MutK.below HR.out b5 (by rw [Z1.out];omega)).cells4;obtain ⟨z0,z1,z2,z3⟩:=(MutK.below HR.out b5 (by rw [Z1.out];omega)).free4;have HB4:Hid _:=Below.up HB1.out (Nat.le_refl _) b5;clear b4 b5))
 all_goals
  go_wp2
  refine bodyPost_ret (v:=.agg #[.int .u64 (h3 0),.int .u64 (h3 1),.int .u64 (h3 2),.int .u64 (h3 3)]) (by simp [results,Tryz.results34,go_sem,y0,y1,y2,y3]) rfl ⟨_,rfl,⟨h3,rfl,R3.out,V3.out⟩,?_⟩
  exact below_set4 HB4.out (by omega) _ _ _ _
theorem negR_any (f:Nat→Int) (w:World) (rf:Rg f 4) (lf:val f 4<RI) :
  Calls Tryz.prog 13 #[frv f] w fun e w'=>∃ v,e=.returned v∧IsFr v ((0-val f 4)%RI)∧Below w.heap.size w w':=by
 have K:∀ W:World,Calls Tryz.prog 34 #[.agg #[.int .u64 0,.int .u64 0,.int .u64 0,.int .u64 0],.agg #[.int .u64 (f 0),.int .u64 (f 1),.int .u64 (f 2),.int .u64 (f 3)]] W fun e w'=>∃ v,e=.returned v∧IsFr v ((0-val f 4)%RI)∧Below W.heap.size W w':=fun W=>by
  have:=subR_any Z f W (Z_rg 4) rf (by rw [val_Z];decide) lf
  rw [val_Z] at this
  exact this
 have HK:Hid _:=K
 clear K
 unfold frv
 obtain ⟨B1,z1,-,hR⟩:=pair_all w f 27
 unfold pair at B1 z1 hR
 go_enter Tryz.func13,Tryz.ntmps13
 go_wp2_with fail
 generalize (w.alloc (.cells #[.int .u64 (f 0),.int .u64 (f 1),.int .u64 (f 2),.int .u64 (f 3)] 27)).alloc (.cells #[.int .u64 0,.int .u64 0,.int .u64 0,.int .u64 0] 27)=W at *
 refine Calls.mono (HK.out W) ?_
 rintro e w4 ⟨v,rfl,⟨h3,rfl,r3,v3⟩,b5⟩
 obtain ⟨y0,y1,y2,y3⟩:=(hR.below b5 (by rw [z1];omega)).cells4
 obtain ⟨z0,z1,z2,z3⟩:=(hR.below b5 (by rw [z1];omega)).free4
 have HB4:Hid _:=Below.up B1 (Nat.le_refl _) b5
 have R3:Hid _:=r3
 have V3:Hid _:=v3
 clear b5 r3 v3 hR B1
 go_wp2
 refine bodyPost_ret (v:=.agg #[.int .u64 (h3 0),.int .u64 (h3 1),.int .u64 (h3 2),.int .u64 (h3 3)]) (by simp [results,Tryz.results13,go_sem,y0,y1,y2,y3]) rfl ⟨_,rfl,⟨h3,rfl,R3.out,V3.out⟩,?_⟩
 exact below_set4 HB4.out (by omega) _ _ _ _
end Go.Proofs.YthnfgmhehfombaaGreatDoor
/- What the document's MulR answers: the product modulo R, by Montgomery's way twice. -/
namespace Go.Proofs.YthnfgmhehfombaaGreatDoor
open Go.RowKit
attribute [local go_sem ↓] Go.wp_at_zero Go.wp_at_succ
theorem twice {A B r s:Int} (h1:r*pw 4%RI=A*B%RI) (h2:s*pw 4%RI=r*val cL 4%RI) (hs:0≤s∧s<RI):s=A*B%RI:=by
 have e1:s*pw 4%RI=(A*B)*pw 4%RI:=by
  rw [h2,← mul_mod_r r,cL_val,mul_mod_r,← Int.mul_assoc,← mul_mod_l,h1,mul_mod_l]
 have e2:s*pw 4*uI%RI=(A*B)*pw 4*uI%RI:=by rw [← mul_mod_l,e1,mul_mod_l]
 have e3:pw 4*uI%RI=1:=by decide +kernel
 rw [Int.mul_assoc,← mul_mod_r,e3,Int.mul_assoc (A*B),← mul_mod_r (A*B),e3,Int.mul_one,Int.mul_one] at e2
 rw [← e2];exact (Int.emod_eq_of_lt hs.1 hs.2).symm
theorem below_da (w:World) (o:Obj):Below w.heap.size w (w.drew.alloc o):=below_drew (below_one _ _)
theorem below_of_da {w x:World} {o:Obj} (h:Below (w.drew.alloc o).heap.size (w.drew.alloc o) x):Below w.heap.size w x:=Below.up (below_da w o) (Nat.le_refl _) h
theorem lit_da (w:World) (t:TypeId):At (w.drew.alloc (.cells #[.int .u64 14526898881837571181,.int .u64 3129137299524312099,.int .u64 419701826671360399,.int .u64 524908885293268753] t)) (some ⟨w.heap.size,0,none⟩) 4 cL:=(mut_four w.drew cL t).at
theorem lit_a (w:World) (t:TypeId):At (w.alloc (.cells #[.int .u64 14526898881837571181,.int .u64 3129137299524312099,.int .u64 419701826671360399,.int .u64 524908885293268753] t)) (some ⟨w.heap.size,0,none⟩) 4 cL:=(mut_four w cL t).at
theorem mulR_any (f g:Nat→Int) (w:World) (rf:Rg f 4) (rg:Rg g 4) (lg:val g 4<RI) :
  Calls Tryz.prog 12 #[frv f,frv g] w fun e w'=>∃ v,e=.returned v∧IsFr v ((val f 4*val g 4)%RI)∧Below w.heap.size w w':=by
 unfold frv
 have LG:Hid (val g 4<val rL 4):=by show _<_;rw [rL_val];exact lg
 clear lg
 obtain ⟨B1,z1,hF,hG,hR⟩:=three_all w f g 27
 unfold three at B1 z1 hF hG hR
 go_enter Tryz.func12,Tryz.ntmps12
 go_wp2_with fail
 generalize ((w.alloc (.cells #[.int .u64 (f 0),.int .u64 (f 1),.int .u64 (f 2),.int .u64 (f 3)] 27)).alloc (.cells #[.int .u64 (g 0),.int .u64 (g 1),.int .u64 (g 2),.int .u64 (g 3)] 27)).alloc (.cells #[.int .u64 0,.int .u64 0,.int .u64 0,.int .u64 0] 27)=W at *
 refine Calls.mono (refR_any _) ?_
 rintro e w2 ⟨rfl,b2,-,m2⟩
 have HB1:Hid _:=Below.up B1 (Nat.le_refl _) b2
 have HF:Hid _:=hF.below b2
 have HG:Hid _:=hG.below b2
 have HM:Hid _:=m2.at
 have HR:Hid _:=hR.below b2 (by rw [z1];omega)
 have HL:Hid (w.heap.size+2<w2.heap.size):=by have:=b2.size;show _<_;omega
 clear B1 z1 hF hG hR b2 m2
 generalize W.heap.size=sm at *
 go_wp2_with fail
 go_region_with (first
  | (go_at_call_of 33 (Value.slice (some ⟨w.heap.size,0,none⟩) 4 4);refine Calls.mono (mont_any _ _ _ 4 4 4 4 f g rL _ (by omega) (by omega) ?_ ?_ ?_ rf rg rL_rg LG.out rL_inv) ?_;(first | exact HF.out | exact AtK.below HF.out (below_da _ _));(first | exact HG.out | exact AtK.below HG.out (below_da _ _));(first | exact HM.out | exact AtK.below HM.out (below_da _ _));rintro e w3 ⟨v3,r,rfl,fx,lr,mr⟩;obtain ⟨b3,p3,c3,h3,rfl,a3,r3,v3⟩:=fx.fr;(first | (have HC3:Hid (At w3 (some ⟨w2.heap.size,0,none⟩) 4 cL):=AtK.below (lit_da _ _) b3) | skip);have HB3:Hid (Below w2.heap.size w2 w3):=(by first | exact below_drew b3 | exact below_of_da b3);have A3:Hid _:=a3;have R3:Hid _:=r3;have V3:Hid _:=v3;have MR:Hid _:=mr;clear b3 a3 r3 v3 fx lr mr)
  | (go_at_call 33;refine Calls.mono (mont_any p3 _ _ 4 c3 4 4 h3 cL rL _ (by omega) (by omega) ?_ ?_ ?_ R3.out cL_rg rL_rg cL_lt rL_inv) ?_;(first | exact A3.out | exact AtK.below A3.out (below_one _ _));(first | exact HC3.out | exact lit_a _ _);(first | exact AtK.below HM.out HB3.out | exact AtK.below HM.out (Below.up HB3.out (Nat.le_refl _) (below_one _ _)));rintro e w4 ⟨v4,s,rfl,fx4,lr4,mr4⟩;obtain ⟨b4,p4,c4,h4,rfl,a4,r4,v4⟩:=fx4.fr;have HB4:Hid (Below w2.heap.size w2 w4):=(by first | exact Below.up HB3.out (Nat.le_refl _) b4 | exact Below.up (Below.up HB3.out (Nat.le_refl _) (below_one _ _)) (Nat.le_refl _) b4);have A4:Hid _:=a4;have R4:Hid _:=r4;have V4:Hid _:=v4;have MR4:Hid _:=mr4;have LR4:Hid _:=lr4;clear b4 a4 r4 v4 fx4 mr4 lr4)
  | (go_at_call 31;refine Calls.mono (refFr4_any p4 c4 h4 _ A4.out) ?_;rintro e w5 ⟨rfl,b4⟩;have b5:Below w2.heap.size w2 w5:=Below.up HB4.out (Nat.le_refl _) b4;obtain ⟨y0,y1,y2,y3⟩:=(MutK.below HR.out b5 HL.out).cells4;obtain ⟨z0,z1,z2,z3⟩:=(MutK.below HR.out b5 HL.out).free4;have HB5:Hid _:=Below.up HB1.out (Nat.le_refl _) b5;clear b4 b5))
 all_goals
  go_wp2
  refine bodyPost_ret (v:=.agg #[.int .u64 (h4 0),.int .u64 (h4 1),.int .u64 (h4 2),.int .u64 (h4 3)]) (by simp [results,Tryz.results12,go_sem,y0,y1,y2,y3]) rfl ⟨_,rfl,⟨h4,rfl,R4.out,?_⟩,?_⟩
  ·have k1:=MR.out
   have k2:=MR4.out
   have k3:=LR4.out
   have k4:=(val_bd R4.out).1
   rw [rL_val] at k1 k2 k3
   rw [V4.out] at k4 ⊢
   rw [V3.out] at k2
   exact twice k1 k2 ⟨k4,k3⟩
  ·exact below_set4 HB5.out (by omega) _ _ _ _
end Go.Proofs.YthnfgmhehfombaaGreatDoor
/- What the document's MulR answers: the product modulo R, by Montgomery's way twice. -/
namespace Go.Proofs.YthnfgmhehfombaaGreatDoor.fpn
open Go.RowKit
attribute [local go_sem ↓] Go.wp_at_zero Go.wp_at_succ
theorem twice {A B r s:Int} (h1:r*pw 6%RI=A*B%RI) (h2:s*pw 6%RI=r*val cL 6%RI) (hs:0≤s∧s<RI):s=A*B%RI:=by
 have e1:s*pw 6%RI=(A*B)*pw 6%RI:=by
  rw [h2,← mul_mod_r r,cL_val,mul_mod_r,← Int.mul_assoc,← mul_mod_l,h1,mul_mod_l]
 have e2:s*pw 6*uI%RI=(A*B)*pw 6*uI%RI:=by rw [← mul_mod_l,e1,mul_mod_l]
 have e3:pw 6*uI%RI=1:=by decide +kernel
 rw [Int.mul_assoc,← mul_mod_r,e3,Int.mul_assoc (A*B),← mul_mod_r (A*B),e3,Int.mul_one,Int.mul_one] at e2
 rw [← e2];exact (Int.emod_eq_of_lt hs.1 hs.2).symm
theorem lit_da (w:World) (t:TypeId):At (w.drew.alloc (.cells #[.int .u64 17644856173732828998,.int .u64 754043588434789617,.int .u64 10224657059481499349,.int .u64 7488229067341005760,.int .u64 11130996698012816685,.int .u64 1267921511277847466] t)) (some ⟨w.heap.size,0,none⟩) 6 cL:=(mut_four w.drew cL t).at
theorem lit_a (w:World) (t:TypeId):At (w.alloc (.cells #[.int .u64 17644856173732828998,.int .u64 754043588434789617,.int .u64 10224657059481499349,.int .u64 7488229067341005760,.int .u64 11130996698012816685,.int .u64 1267921511277847466] t)) (some ⟨w.heap.size,0,none⟩) 6 cL:=(mut_four w cL t).at
theorem mulR_any (f g:Nat→Int) (w:World) (rf:Rg f 6) (rg:Rg g 6) (lg:val g 6<RI) :
  Calls Tryz.prog 46 #[frv f,frv g] w fun e w'=>∃ v,e=.returned v∧IsFr v ((val f 6*val g 6)%RI)∧Below w.heap.size w w':=by
 unfold frv
 have LG:Hid (val g 6<val rL 6):=by show _<_;rw [rL_val];exact lg
 clear lg
 obtain ⟨B1,z1,hF,hG,hR⟩:=three_all w f g 30
 unfold three at B1 z1 hF hG hR
 go_enter Tryz.func46,Tryz.ntmps46
 go_wp2_with fail
 generalize ((w.alloc (.cells #[.int .u64 (f 0),.int .u64 (f 1),.int .u64 (f 2),.int .u64 (f 3),.int .u64 (f 4),.int .u64 (f 5)] 30)).alloc (.cells #[.int .u64 (g 0),.int .u64 (g 1),.int .u64 (g 2),.int .u64 (g 3),.int .u64 (g 4),.int .u64 (g 5)] 30)).alloc (.cells #[.int .u64 0,.int .u64 0,.int .u64 0,.int .u64 0,.int .u64 0,.int .u64 0] 30)=W at *
 refine Calls.mono (refR_any _) ?_
 rintro e w2 ⟨rfl,b2,-,m2⟩
 have HB1:Hid _:=Below.up B1 (Nat.le_refl _) b2
 have HF:Hid _:=hF.below b2
 have HG:Hid _:=hG.below b2
 have HM:Hid _:=m2.at
 have HR:Hid _:=hR.below b2 (by rw [z1];omega)
 have HL:Hid (w.heap.size+2<w2.heap.size):=by have:=b2.size;show _<_;omega
 clear B1 z1 hF hG hR b2 m2
 generalize W.heap.size=sm at *
 go_wp2_with fail
 go_region_with (first
  | (go_at_call_of 33 (Value.slice (some ⟨w.heap.size,0,none⟩) 6 6);refine Calls.mono (mont_any _ _ _ 6 6 6 6 f g rL _ (by omega) (by omega) ?_ ?_ ?_ rf rg rL_rg LG.out rL_inv) ?_;(first | exact HF.out | exact AtK.below HF.out (below_da _ _));(first | exact HG.out | exact AtK.below HG.out (below_da _ _));(first | exact HM.out | exact AtK.below HM.out (below_da _ _));rintro e w3 ⟨v3,r,rfl,fx,lr,mr⟩;obtain ⟨b3,p3,c3,h3,rfl,a3,r3,v3⟩:=fx.fp6;(first | (have HC3:Hid (At w3 (some ⟨w2.heap.size,0,none⟩) 6 cL):=AtK.below (lit_da _ _) b3) | skip);have HB3:Hid (Below w2.heap.size w2 w3):=(by first | exact below_drew b3 | exact below_of_da b3);have A3:Hid _:=a3;have R3:Hid _:=r3;have V3:Hid _:=v3;have MR:Hid _:=mr;clear b3 a3 r3 v3 fx lr mr)
  | (go_at_call 33;refine Calls.mono (mont_any p3 _ _ 6 c3 6 6 h3 cL rL _ (by omega) (by omega) ?_ ?_ ?_ R3.out cL_rg rL_rg cL_lt rL_inv) ?_;(first | exact A3.out | exact AtK.below A3.out (below_one _ _));(first | exact HC3.out | exact lit_a _ _);(first | exact AtK.below HM.out HB3.out | exact AtK.below HM.out (Below.up HB3.out (Nat.le_refl _) (below_one _ _)));rintro e w4 ⟨v4,s,rfl,fx4,lr4,mr4⟩;obtain ⟨b4,p4,c4,h4,rfl,a4,r4,v4⟩:=fx4.fp6;have HB4:Hid (Below w2.heap.size w2 w4):=(by first | exact Below.up HB3.out (Nat.le_refl _) b4 | exact Below.up (Below.up HB3.out (Nat.le_refl _) (below_one _ _)) (Nat.le_refl _) b4);have A4:Hid _:=a4;have R4:Hid _:=r4;have V4:Hid _:=v4;have MR4:Hid _:=mr4;have LR4:Hid _:=lr4;clear b4 a4 r4 v4 fx4 mr4 lr4)
  | (go_at_call 78;refine Calls.mono (refFr4_any p4 c4 h4 _ A4.out) ?_;rintro e w5 ⟨rfl,b4⟩;have b5:Below w2.heap.size w2 w5:=Below.up HB4.out (Nat.le_refl _) b4;obtain ⟨y0,y1,y2,y3,y4,y5⟩:=(MutK.below HR.out b5 HL.out).cells6;obtain ⟨z0,z1,z2,z3,z4,z5⟩:=(MutK.below HR.out b5 HL.out).free6;have HB5:Hid _:=Below.up HB1.out (Nat.le_refl _) b5;clear b4 b5))
 all_goals
  go_wp2
  refine bodyPost_ret (v:=.agg #[.int .u64 (h4 0),.int .u64 (h4 1),.int .u64 (h4 2),.int .u64 (h4 3),.int .u64 (h4 4),.int .u64 (h4 5)]) (by simp [results,Tryz.results46,go_sem,y0,y1,y2,y3,y4,y5]) rfl ⟨_,rfl,⟨h4,rfl,R4.out,?_⟩,?_⟩
  ·have k1:=MR.out
   have k2:=MR4.out
   have k3:=LR4.out
   have k4:=(val_bd R4.out).1
   rw [rL_val] at k1 k2 k3
   rw [V4.out] at k4 ⊢
   rw [V3.out] at k2
   exact twice k1 k2 ⟨k4,k3⟩
  ·exact below_set6 HB5.out (by omega) _ _ _ _ _ _
end Go.Proofs.YthnfgmhehfombaaGreatDoor.fpn
/- What the document's PowR answers: powers modulo R. -/
namespace Go.Proofs.YthnfgmhehfombaaGreatDoor
open Go.RowKit
attribute [local go_sem ↓] Go.wp_at_zero Go.wp_at_succ
theorem nat_bit {g:Nat→Int} {n E j:Nat} (rg:Rg g n) (hE:val g n=(E:Int)) (hj:j<64*n):g (j / 64) / 2^(j%64)%2=((E / 2^j%2:Nat):Int):=by
 rw [← bit_of rg hj,hE];norm_cast
theorem nat_half (E j:Nat):E / 2^j=2*(E / 2^(j+1))+E / 2^j%2:=by
 rw [Nat.pow_succ,← Nat.div_div_eq_div_mul];omega
theorem nat_top {g:Nat→Int} {n E:Nat} (rg:Rg g n) (hE:val g n=(E:Int)):E / 2^(64*n)=0:=by
 apply Nat.div_eq_of_lt
 have h:=(val_bd rg).2
 rw [hE,← two_pow_64] at h
 exact_mod_cast h
end Go.Proofs.YthnfgmhehfombaaGreatDoor
/- What the document's PowR answers: powers modulo R. -/
namespace Go.Proofs.YthnfgmhehfombaaGreatDoor.fpn
open Go.RowKit
attribute [local go_sem ↓] Go.wp_at_zero Go.wp_at_succ
theorem mulR_agg (f g:Nat→Int) (w:World) (rf:Rg f 6) (rg:Rg g 6) (lg:val g 6<RI) :
  Calls Tryz.prog 46 #[.agg #[.int .u64 (f 0),.int .u64 (f 1),.int .u64 (f 2),.int .u64 (f 3),.int .u64 (f 4),.int .u64 (f 5)],.agg #[.int .u64 (g 0),.int .u64 (g 1),.int .u64 (g 2),.int .u64 (g 3),.int .u64 (g 4),.int .u64 (g 5)]] w fun e w'=>∃ h,e=.returned (.agg #[.int .u64 (h 0),.int .u64 (h 1),.int .u64 (h 2),.int .u64 (h 3),.int .u64 (h 4),.int .u64 (h 5)])∧Rg h 6∧val h 6=val f 6*val g 6%RI∧Below w.heap.size w w':=by
 refine Calls.mono (mulR_any f g w rf rg lg) ?_
 rintro e w' ⟨v,rfl,⟨h,rfl,r,v⟩,b⟩
 exact ⟨h,rfl,r,v,b⟩
theorem pow_sq {A H:Int} {q:Nat} (h:H=A^q%RI):H*H%RI=A^(2*q)%RI:=by
 rw [h,mul_mod_l,mul_mod_r,← Int.pow_add,Nat.two_mul]
theorem pow_sq1 {A H:Int} {q:Nat} (h:H=A^(2*q)%RI):H*A%RI=A^(2*q+1)%RI:=by
 rw [h,mul_mod_l,← Int.pow_succ]
theorem powR_any (f:Nat→Int) (pe:Option Addr) (n ce:Nat) (g:Nat→Int) (E:Nat) (w:World) (rf:Rg f 6) (lf:val f 6<RI) (hn:n≤1000) (he:At w pe n g) (rg:Rg g n) (hE:val g n=(E:Int)) :
  Calls Tryz.prog 73 #[frv f,.slice pe n ce] w fun e w'=>∃ v,e=.returned v∧IsFr v (val f 6^E%RI)∧Below w.heap.size w w':=by
 unfold frv
 obtain ⟨B1,z1,hF,hR⟩:=pair_all w f 30
 unfold pair at B1 z1 hF hR
 go_enter Tryz.func73,Tryz.ntmps73
 go_wp2_with fail
 generalize (w.alloc (.cells #[.int .u64 (f 0),.int .u64 (f 1),.int .u64 (f 2),.int .u64 (f 3),.int .u64 (f 4),.int .u64 (f 5)] 30)).alloc (.cells #[.int .u64 0,.int .u64 0,.int .u64 0,.int .u64 0,.int .u64 0,.int .u64 0] 30)=W at *
 refine Calls.mono (refOf_any _ _) ?_
 rintro e w2 ⟨rfl,b2⟩
 have b3:=Below.up B1 (Nat.le_refl _) b2
 have HB2:Hid _:=b3
 have HF:Hid _:=hF.below b2 (by rw [z1];omega)
 have HR:Hid _:=hR.below b2 (by rw [z1];omega)
 have HE:Hid _:=he.below b3
 have HL:Hid (w.heap.size+2≤w2.heap.size):=by have:=b2.size;show _≤_;omega
 have HX:Hid (Mut (w2.alloc (.cells #[.int .u64 1,.int .u64 0,.int .u64 0,.int .u64 0,.int .u64 0,.int .u64 0] 30)) w2.heap.size 0 6 (one 1)):=mut_four w2 (one 1) _
 have R1:Hid (Rg (one 1) 6):=one_rg ⟨by decide,by rw [B64_eq];decide⟩ 6
 have V1:Hid (val (one 1) 6=val f 6^(E / 2^(64*n))%RI):=by
  show _=_
  rw [nat_top rg hE,Int.pow_zero];decide +kernel
 have N0:∀ j,j<64*n→Hid (g (j / 64) / 2^(j%64)%2=((E / 2^j%2:Nat):Int)):=fun j hj=>nat_bit rg hE hj
 have HRG:Hid _:=rg
 have LF:Hid _:=lf
 clear B1 z1 hF hR b2 b3 he hE rg lf
 go_wp2_with fail
 go_loopw [6] (fun i wr=>∃ (j:Nat) (h:Nat→Int),j≤64*n∧i=.int .i64 ((j:Int)-1)∧Below w2.heap.size w2 wr∧Mut wr w2.heap.size 0 6 h∧Rg h 6∧val h 6=val f 6^(E / 2^j)%RI) (fun i _=>(intOf i+1).toNat)
 case atStart=>exact ⟨64*n,one 1,Nat.le_refl _,by go_num,below_one _ _,HX.out,R1.out,V1.out⟩
 case round =>
  obtain ⟨j,h,hj,rfl,hbel,hW,rh,vh⟩:=hrel
  cases j with
  | zero =>
   obtain ⟨x0,x1,x2,x3,x4,x5⟩:=hW.cells6
   obtain ⟨y0,y1,y2,y3,y4,y5⟩:=(MutK.below HR.out hbel (by have:=HL.out;omega)).cells6
   obtain ⟨z0,z1,z2,z3,z4,z5⟩:=(MutK.below HR.out hbel (by have:=HL.out;omega)).free6
   have HB:Hid _:=Below.up HB2.out (Nat.le_refl _) hbel
   have RH:Hid _:=rh
   have VH:Hid _:=vh
   clear hbel hW rh vh
   go_wp2
   refine bodyPost_ret (v:=.agg #[.int .u64 (h 0),.int .u64 (h 1),.int .u64 (h 2),.int .u64 (h 3),.int .u64 (h 4),.int .u64 (h 5)]) (by simp [results,Tryz.results73,go_sem,y0,y1,y2,y3,y4,y5]) rfl ⟨_,rfl,⟨h,rfl,RH.out,?_⟩,?_⟩
   ·rw [VH.out,Nat.pow_zero,Nat.div_one]
   ·exact below_set6 HB.out (by omega) _ _ _ _ _ _
  | succ j =>
   rw [show ((j+1:Nat):Int)-1=(j:Int) by omega]
   obtain ⟨x0,x1,x2,x3,x4,x5⟩:=hW.cells6
   have hlt:val h 6<RI:=by rw [vh];exact modR_lt _
   have M1:Hid _:=mulR_agg h h wr rh rh hlt
   have VH:Hid _:=vh
   have HW:Hid _:=hW
   have HB:Hid _:=hbel
   have bl:w2.heap.size<wr.heap.size:=cell_lt x0
   have BL:Hid _:=bl
   clear hbel hW rh vh hlt bl
   go_wp2_with fail
   refine Calls.mono M1.out ?_
   rintro e w3 ⟨h3,rfl,r3,v3,b3⟩
   have hb3:=Below.up HB.out (Nat.le_refl _) b3
   have k3:=MutK.below HW.out b3 BL.out
   obtain ⟨y0,y1,y2,y3,y4,y5⟩:=k3.cells6
   obtain ⟨z0,z1,z2,z3,z4,z5⟩:=k3.free6
   have m4:=mut_set6 k3 h3
   have b4:=below_set6 hb3 (Nat.le_refl _) (.int .u64 (h3 0)) (.int .u64 (h3 1)) (.int .u64 (h3 2)) (.int .u64 (h3 3)) (.int .u64 (h3 4)) (.int .u64 (h3 5))
   have M4:Hid _:=m4
   have B4:Hid _:=b4
   have R3:Hid _:=r3
   have V3:Hid _:=v3
   have hb1:=(N0 j (by omega)).out
   have hh:=nat_half E j
   clear k3 m4 b4 r3 v3 M1 HB HW BL b3 hb3 x0 x1 x2 x3 x4 x5
   go_wp2_with fail
   generalize (((((w3.setCell ⟨w2.heap.size,0,none⟩ (.int .u64 (h3 0))).setCell ⟨w2.heap.size,1,none⟩ (.int .u64 (h3 1))).setCell ⟨w2.heap.size,2,none⟩ (.int .u64 (h3 2))).setCell ⟨w2.heap.size,3,none⟩ (.int .u64 (h3 3))).setCell ⟨w2.heap.size,4,none⟩ (.int .u64 (h3 4))).setCell ⟨w2.heap.size,5,none⟩ (.int .u64 (h3 5))=W4 at *
   have KB:Hid _:=refBit_any pe n ce g j W4 (by omega) (by omega) (by omega) (AtK.below HE.out B4.out) HRG.out
   rw [hb1] at KB
   have vs:=pow_sq VH.out
   rw [← V3.out] at vs
   have VS:Hid _:=vs
   clear y0 y1 y2 y3 y4 y5 z0 z1 z2 z3 z4 z5 hb1 vs
   have h01:E / 2^j%2=0∨E / 2^j%2=1:=by omega
   rcases h01 with h0 | h1
   ·rw [h0] at KB
    have VF:Hid (val h3 6=val f 6^(E / 2^j)%RI):=by
     show _=_
     have e:E / 2^j=2*(E / 2^(j+1)):=by rw [h0] at hh;exact hh
     rw [VS.out,e]
    clear hh h0
    refine Calls.mono KB.out ?_
    rintro e w5 ⟨rfl,rfl⟩
    go_wp2
    go_roundw
    case rel=>exact ⟨j,h3,by omega,by go_num,B4.out,M4.out,R3.out,VF.out⟩
    case measure=>simp [intOf]
   ·rw [h1] at KB
    have VF:Hid (val h3 6*val f 6%RI=val f 6^(E / 2^j)%RI):=by
     show _=_
     rw [pow_sq1 VS.out,hh,h1]
    clear hh h1
    refine Calls.mono KB.out ?_
    rintro e w5 ⟨rfl,rfl⟩
    obtain ⟨x0,x1,x2,x3,x4,x5⟩:=MutK.cells6 M4.out
    obtain ⟨a0,a1,a2,a3,a4,a5⟩:=(MutK.below HF.out B4.out (by have:=HL.out;omega)).cells6
    have M2:Hid _:=mulR_agg h3 f w5 R3.out rf LF.out
    have bl:w2.heap.size<w5.heap.size:=cell_lt x0
    have BL:Hid _:=bl
    clear bl
    go_wp2_with fail
    refine Calls.mono M2.out ?_
    rintro e w6 ⟨h6,rfl,r6,v6,b6⟩
    have hb6:=Below.up B4.out (Nat.le_refl _) b6
    have k6:=MutK.below M4.out b6 BL.out
    obtain ⟨y0,y1,y2,y3,y4,y5⟩:=k6.cells6
    obtain ⟨z0,z1,z2,z3,z4,z5⟩:=k6.free6
    have m6:=mut_set6 k6 h6
    have b7:=below_set6 hb6 (Nat.le_refl _) (.int .u64 (h6 0)) (.int .u64 (h6 1)) (.int .u64 (h6 2)) (.int .u64 (h6 3)) (.int .u64 (h6 4)) (.int .u64 (h6 5))
    have M6:Hid _:=m6
    have B6:Hid _:=b7
    have R6:Hid _:=r6
    have V6:Hid _:=v6
    clear k6 m6 b7 r6 v6 M2 M4 B4 BL b6 hb6 x0 x1 x2 x3 x4 x5 a0 a1 a2 a3 a4 a5
    go_wp2
    go_roundw
    case rel=>exact ⟨j,h6,by omega,by go_num,B6.out,M6.out,R6.out,by rw [V6.out];exact VF.out⟩
    case measure=>simp [intOf]
end Go.Proofs.YthnfgmhehfombaaGreatDoor.fpn
/- How two scalars are compared; what the document's InvR, RootR and WideR answer. -/
namespace Go.Proofs.YthnfgmhehfombaaGreatDoor.fpn
open Go.RowKit
attribute [local go_sem ↓] Go.wp_at_zero Go.wp_at_succ
theorem invR_zero (f:Nat→Int) (w:World) (rf:Rg f 6) (hz:val f 6=0) :
  Calls Tryz.prog 79 #[frv f] w fun e w'=>e=.returned (.tuple #[frv f,.int .i64 7])∧Below w.heap.size w w':=by
 have E:∀ w,(Op.equalIn 10000 30 (.agg #[.int .u64 (f 0),.int .u64 (f 1),.int .u64 (f 2),.int .u64 (f 3),.int .u64 (f 4),.int .u64 (f 5)]) (.agg #[.int .u64 0,.int .u64 0,.int .u64 0,.int .u64 0,.int .u64 0,.int .u64 0])).run Tryz.prog w=.ok true w:=fun w=>by
  have:=eqFr_run f Z rf (Z_rg 6) w
  rw [val_Z,decide_eq_true hz] at this
  exact this
 unfold frv
 go_enter Tryz.func79,Tryz.ntmps79
 go_wp2
 refine bodyPost_ret (v:=.tuple #[.agg #[.int .u64 (f 0),.int .u64 (f 1),.int .u64 (f 2),.int .u64 (f 3),.int .u64 (f 4),.int .u64 (f 5)],.int .i64 7]) (by simp [results,Tryz.results79,go_sem]) rfl ⟨rfl,below_two _ _ _⟩
theorem invR_any (f:Nat→Int) (w:World) (rf:Rg f 6) (lf:val f 6<RI) (hz:val f 6≠0) :
  Calls Tryz.prog 79 #[frv f] w fun e w'=>∃ v,e=.returned (.tuple #[v,.int .i64 0])∧IsFr v (val f 6^(RN-2)%RI)∧Below w.heap.size w w':=by
 have E:∀ w,(Op.equalIn 10000 30 (.agg #[.int .u64 (f 0),.int .u64 (f 1),.int .u64 (f 2),.int .u64 (f 3),.int .u64 (f 4),.int .u64 (f 5)]) (.agg #[.int .u64 0,.int .u64 0,.int .u64 0,.int .u64 0,.int .u64 0,.int .u64 0])).run Tryz.prog w=.ok false w:=fun w=>by
  have:=eqFr_run f Z rf (Z_rg 6) w
  rw [val_Z,decide_eq_false hz] at this
  exact this
 unfold frv
 obtain ⟨B1,z1,hF,hR⟩:=pair_all w f 30
 unfold pair at B1 z1 hF hR
 have HZ:Hid _:=hz
 have LF:Hid _:=lf
 clear hz lf
 go_enter Tryz.func79,Tryz.ntmps79
 go_wp2_with fail
 generalize (w.alloc (.cells #[.int .u64 (f 0),.int .u64 (f 1),.int .u64 (f 2),.int .u64 (f 3),.int .u64 (f 4),.int .u64 (f 5)] 30)).alloc (.cells #[.int .u64 0,.int .u64 0,.int .u64 0,.int .u64 0,.int .u64 0,.int .u64 0] 30)=W at *
 refine Calls.mono (refR_any _) ?_
 rintro e w2 ⟨rfl,b2,-,m2⟩
 have b3:=Below.up B1 (Nat.le_refl _) b2
 have c2:=below_one w2 (.cells #[.int .u64 2] 25)
 have K1:Hid _:=refLess_any (some ⟨W.heap.size,0,none⟩) (some ⟨w2.heap.size,0,none⟩) 6 1 6 1 rL (one 2) _ (by omega) (by omega) (by omega) (by omega) (m2.at.below c2) (at_one w2 2 25) rL_rg (one_rg ⟨by decide,by rw [B64_eq];decide⟩ 1) (by rw [rL_val,val_one];decide) (by omega) (by omega)
 have b4:=Below.up b2 (Nat.le_refl _) c2
 have hF2:=hF.below b4 (by rw [z1];omega)
 have hR2:=hR.below b4 (by rw [z1];omega)
 have HB4:Hid _:=Below.up B1 (Nat.le_refl _) b4
 have HLW:Hid (w.heap.size+2≤(w2.alloc (.cells #[.int .u64 2] 25)).heap.size):=by have:=b4.size;show _≤_;omega
 clear b3 b2 m2 b4 hF hR B1 z1 c2
 go_wp2_with fail
 generalize w2.alloc (.cells #[.int .u64 2] 25)=w3 at *
 refine Calls.mono K1.out ?_
 rintro e w4 ⟨v,rfl,b5,p,n,c,h,rfl,l1,l2,l3,a4,r4,-,v4⟩
 rw [rL_val,val_one] at v4
 have hF3:=hF2.below b5 (by have:=HLW.out;omega)
 have hR3:=hR2.below b5 (by have:=HLW.out;omega)
 obtain ⟨x0,x1,x2,x3,x4,x5⟩:=hF3.cells6
 have P1:Hid _:=powR_any f p n c h (RN-2) w4 rf LF.out (by omega) a4 r4 (by rw [v4,RI_RN];rfl)
 unfold frv at P1
 have HB5:Hid _:=Below.up HB4.out (Nat.le_refl _) b5
 have HL5:Hid (w.heap.size+2≤w4.heap.size):=by have:=b5.size;have:=HLW.out;show _≤_;omega
 have HR3:Hid _:=hR3
 clear b5 a4 r4 v4 hF2 hR2 hF3 hR3 K1 HB4 HLW l1 l2 l3
 go_wp2_with fail
 refine Calls.mono P1.out ?_
 rintro e w5 ⟨v,rfl,⟨h3,rfl,r3,v3⟩,b5⟩
 obtain ⟨y0,y1,y2,y3,y4,y5⟩:=(MutK.below HR3.out b5 (by have:=HL5.out;omega)).cells6
 obtain ⟨z0,z1,z2,z3,z4,z5⟩:=(MutK.below HR3.out b5 (by have:=HL5.out;omega)).free6
 have HB6:Hid _:=Below.up HB5.out (Nat.le_refl _) b5
 have R3:Hid _:=r3
 have V3:Hid _:=v3
 clear b5 r3 v3 x0 x1 x2 x3 x4 x5
 go_wp2
 refine bodyPost_ret (v:=.tuple #[.agg #[.int .u64 (h3 0),.int .u64 (h3 1),.int .u64 (h3 2),.int .u64 (h3 3),.int .u64 (h3 4),.int .u64 (h3 5)],.int .i64 0]) (by simp [results,Tryz.results79,go_sem,y0,y1,y2,y3,y4,y5]) rfl ⟨_,rfl,⟨h3,rfl,R3.out,V3.out⟩,?_⟩
 exact below_set6 HB6.out (by omega) _ _ _ _ _ _
end Go.Proofs.YthnfgmhehfombaaGreatDoor.fpn
/- What the document's Take answers. -/
namespace Go.Proofs.YthnfgmhehfombaaGreatDoor
open Go.RowKit
attribute [local go_sem ↓] Go.wp_at_zero Go.wp_at_succ
end Go.Proofs.YthnfgmhehfombaaGreatDoor
/- What the document's Put answers. -/
namespace Go.Proofs.YthnfgmhehfombaaGreatDoor
open Go.RowKit
end Go.Proofs.YthnfgmhehfombaaGreatDoor
/- What the document's WideR, PutR, TakeR answer. -/
namespace Go.Proofs.YthnfgmhehfombaaGreatDoor.fpn
open Go.RowKit
attribute [local go_sem ↓] Go.wp_at_zero Go.wp_at_succ
end Go.Proofs.YthnfgmhehfombaaGreatDoor.fpn
/- How two scalars are compared; what the document's InvR, RootR and WideR answer. -/
namespace Go.Proofs.YthnfgmhehfombaaGreatDoor
open Go.RowKit
attribute [local go_sem ↓] Go.wp_at_zero Go.wp_at_succ
end Go.Proofs.YthnfgmhehfombaaGreatDoor
/- What the document's WideR, PutR, TakeR answer. -/
namespace Go.Proofs.YthnfgmhehfombaaGreatDoor
open Go.RowKit
attribute [local go_sem ↓] Go.wp_at_zero Go.wp_at_succ
def bv (g:Nat→Int):Nat→Int
 | 0=>0
 | n+1=>bv g n*256+g n
end Go.Proofs.YthnfgmhehfombaaGreatDoor
/- What the document's PutR and TakeR answer; bytes as a number. -/
namespace Go.Proofs.YthnfgmhehfombaaGreatDoor
open Go.RowKit
attribute [local go_sem ↓] Go.wp_at_zero Go.wp_at_succ
end Go.Proofs.YthnfgmhehfombaaGreatDoor
/- What an array of four limbs that comes in gives the walks. -/
namespace Go.Proofs.YthnfgmhehfombaaGreatDoor
open Go.ChangeShapes Go.WideShapes Go.ChangeAt Go.RowKit
theorem list4 {α:Type} (l:List α) (h:(⟨l⟩:Array α).size=4):∃ a b c d,l=[a,b,c,d]:=by
 match l,h with
 | [a,b,c,d],_=>exact ⟨a,b,c,d,rfl⟩
theorem cellsFr:Tryz.prog.cellsOf 27=4:=by kernel_rfl
theorem cells64:Tryz.prog.cellsOf 25=1:=by kernel_rfl
def quad (a b c d:Int):Nat→Int
 | 0=>a
 | 1=>b
 | 2=>c
 | 3=>d
 | _=>0
theorem open_fr {H:Type} {enc:TypeId × Value→H} {W:World} {base:Nat} {v:Value} {d:DataW H} {p:List MemPlace}
  (hv:Value.okWide Tryz.prog W .any base 27 v) (h0:DataW.Trod enc Tryz.prog W 0 (fun _=>true) true 27 v d p) :
  ∃ f:Nat→Int,v=frv f∧Rg f 4:=by
 obtain ⟨cs,rfl,hsz,_⟩:∃ cs,v=.agg cs∧cs.size=Tryz.prog.cellsOf 27∧Row.okWide Tryz.prog W .any base 27 cs:=by
  simpa [Value.okWide,Tryz.underlying27] using hv
 rw [cellsFr] at hsz
 obtain ⟨l⟩:=cs
 obtain ⟨c0,c1,c2,c3,rfl⟩:=list4 l hsz
 obtain ⟨fuel,hf⟩:=h0
 obtain ⟨y0,y1,y2,y3,m,hx,hy0,hy1,hy2,hy3⟩:=trod_array4 Tryz.underlying27 cells64 hf
 obtain ⟨x0,e0,rfl,w0⟩:=DataW.trod_int Tryz.underlying25 hy0
 obtain ⟨x1,e1,rfl,w1⟩:=DataW.trod_int Tryz.underlying25 hy1
 obtain ⟨x2,e2,rfl,w2⟩:=DataW.trod_int Tryz.underlying25 hy2
 obtain ⟨x3,e3,rfl,w3⟩:=DataW.trod_int Tryz.underlying25 hy3
 simp at e0 e1 e2 e3
 subst e0 e1 e2 e3
 refine ⟨quad x0 x1 x2 x3,rfl,fun i hi=>?_⟩
 have b0:=bounds_u64 w0
 have b1:=bounds_u64 w1
 have b2:=bounds_u64 w2
 have b3:=bounds_u64 w3
 rw [B64_eq]
 rcases (show i=0∨i=1∨i=2∨i=3 by omega) with rfl | rfl | rfl | rfl<;>simp only [quad]<;>omega
end Go.Proofs.YthnfgmhehfombaaGreatDoor
/- What the document's PutR and TakeR answer; bytes as a number. -/
namespace Go.Proofs.YthnfgmhehfombaaGreatDoor.fpn
open Go.RowKit
attribute [local go_sem ↓] Go.wp_at_zero Go.wp_at_succ
end Go.Proofs.YthnfgmhehfombaaGreatDoor.fpn
/- What an array of six limbs that comes in gives the walks. -/
namespace Go.Proofs.YthnfgmhehfombaaGreatDoor.fpn
open Go.ChangeShapes Go.WideShapes Go.ChangeAt Go.RowKit
theorem list6 {α:Type} (l:List α) (h:(⟨l⟩:Array α).size=6):∃ a b c d p q,l=[a,b,c,d,p,q]:=by
 match l,h with
 | [a,b,c,d,p,q],_=>exact ⟨a,b,c,d,p,q,rfl⟩
theorem cellsFr:Tryz.prog.cellsOf 30=6:=by kernel_rfl
end Go.Proofs.YthnfgmhehfombaaGreatDoor.fpn
/- What the document's half answers: a number by two. -/
namespace Go.Proofs.YthnfgmhehfombaaGreatDoor.fpn
open Go.RowKit
attribute [local go_sem ↓] Go.wp_at_zero Go.wp_at_succ
def hv (f:Nat→Int) (n i:Nat):Int:=f i / 2+lm f n (i+1)%2*9223372036854775808
theorem hv_rg {f:Nat→Int} {n:Nat} (rf:Rg f n):Rg (hv f n) n:=fun i hi=>by
 have a:=rf i hi
 unfold hv
 rw [B64_eq] at *
 omega
theorem hv_sum {f:Nat→Int} {n:Nat}:∀ m,m≤n→0<n→2*val (hv f n) m+f 0%2=val f m+lm f n m%2*pw m
 | 0,_,h0=>by rw [lm_in h0];simp [val,pw]
 | m+1,hm,h0=>by
  have ih:=hv_sum (f:=f) (n:=n) m (by omega) h0
  rw [lm_in (by omega)] at ih
  rw [val,val,pw]
  have e1:f m=2*(f m / 2)+f m%2:=by omega
  have e2:hv f n m=f m / 2+lm f n (m+1)%2*9223372036854775808:=rfl
  rw [e2]
  generalize lm f n (m+1)%2=b at *
  generalize f m / 2=x at *
  generalize f m%2=y at *
  rw [e1,B64_eq]
  generalize pw m=P at *
  grind
theorem hv_val {f:Nat→Int} {n:Nat} (h0:0<n):val (hv f n) n=val f n / 2:=by
 have:=hv_sum (f:=f) (n:=n) n (Nat.le_refl _) h0
 rw [lm_out (Nat.le_refl n)] at this
 omega
theorem half_any (p:Option Addr) (n c:Nat) (f:Nat→Int) (w:World) (h0:0<n) (hn:n≤1000) (l1:n≤c) (ha:At w p n f) (rf:Rg f n) :
  Calls Tryz.prog 74 #[.slice p n c] w fun e w'=>∃ b,e=.returned (.slice (some ⟨b,0,none⟩) n n)∧Below w.heap.size w w'∧Mut w' b 0 n (hv f n):=by
 obtain ⟨i0,hi0,hz0,hz1,hz2⟩:=info_parts info64
 go_enter Tryz.func74,Tryz.ntmps74
 go_wp2_with (at_make;refine wpList_make_lim _ .u64 rfl _ _ 54 25 rfl Tryz.underlying54 i0 hi0 hz0 hz1 (by omega) .i64 .i64 _ _ n rfl rfl (by omega) (by omega) (by omega) ?_;intro w1 hb1 hs1 hm1)
 have HA:Hid _:=ha
 have RF:Hid _:=rf
 clear ha rf
 go_loopw [4] (fun i wr=>∃ k:Nat,k≤n∧i=.int .i64 k∧Below w.heap.size w wr∧Mut wr w.heap.size 0 n (mix (hv f n) Z k)) (fun i _=>n-(intOf i).toNat)
 case atStart=>exact ⟨0,Nat.zero_le _,rfl,hb1,hm1.congr fun j _=>(mix_zero _ _ _).symm⟩
 case round =>
  obtain ⟨i,hi,rfl,hbel,hm⟩:=hrel
  clear hb1 hs1 hm1
  by_cases hlt:i<n
  ·obtain ⟨b,off,rfl,hcell⟩:=(AtK.below HA.out hbel) (by omega)
   have hc1:=hcell i hlt
   obtain ⟨hc0,hz⟩:=hm i hlt
   rw [Nat.zero_add] at hc0 hz
   have kl:=refLimb_any (some ⟨b,off,none⟩) n c f (i+1) wr.drew (by omega) (by omega) (AtK.below HA.out hbel.drew)
   rw [show ((i+1:Nat):Int)=(i:Int)+1 by omega] at kl
   have KL:Hid _:=kl
   have rl:=lm_rg RF.out (i+2) (i+1) (by omega)
   have ri:=RF.out i hlt
   have HV:Hid (IntKind.u64.wrap (f i / 2+IntKind.u64.wrap (lm f n (i+1)*9223372036854775808))=hv f n i):=by
    show _=_
    rw [IntKind.wrap_u64,IntKind.wrap_u64]
    unfold hv
    rw [B64_eq] at *
    omega
   have HM:Hid _:=hm
   have HB:Hid _:=hbel
   have i1:(0:Int)≤(i:Int):=by omega
   have i2:(i:Int)<(n:Int):=by omega
   have i3:IntKind.i64.wrap ((i:Int)+1)=(i:Int)+1:=by rw [IntKind.wrap_i64];omega
   clear hcell hm hbel kl rl ri
   generalize lm f n (i+1)=z at *
   go_wp2_with fail
   go_region_with (go_at_call 111;refine Calls.mono KL.out ?_;rintro e w' ⟨rfl,rfl⟩)
   all_goals
    rw [HV.out]
    go_wp2
    go_roundw
    case rel=>exact ⟨i+1,by omega,by go_num,(Below.setCell HB.out (by exact Nat.le_refl _) _).drew,(MutK.step0 HM.out hlt).drew⟩
    case measure=>simp [intOf];omega
  ·have e:n=i:=by omega
   subst e
   have HM:Hid _:=hm
   have HB:Hid _:=hbel
   clear hm hbel
   go_wp2
   go_ret
   exact ⟨_,rfl,HB.out,MutK.congr HM.out fun j hj=>mix_lo hj⟩
theorem greatP_at (f:Nat→Int) (w:World) (rf:Rg f 6) (o:Int) (t:Bool) (ho:ord (val f 6) (RI / 2)=o) (ht:decide (0<o)=t):Calls Tryz.prog 77 #[.agg #[.int .u64 (f 0),.int .u64 (f 1),.int .u64 (f 2),.int .u64 (f 3),.int .u64 (f 4),.int .u64 (f 5)]] w fun e w'=>e=.returned (.bool t)∧Below w.heap.size w w':=by
 have hA:=(mut_four w f 30).at
 have b1:=below_one w (.cells #[.int .u64 (f 0),.int .u64 (f 1),.int .u64 (f 2),.int .u64 (f 3),.int .u64 (f 4),.int .u64 (f 5)] 30)
 have z1:=World.size_alloc w (.cells #[.int .u64 (f 0),.int .u64 (f 1),.int .u64 (f 2),.int .u64 (f 3),.int .u64 (f 4),.int .u64 (f 5)] 30)
 have RF:Hid _:=rf
 have HO:Hid _:=ho
 have HT:Hid _:=ht
 clear rf ho ht
 go_enter Tryz.func77,Tryz.ntmps77
 go_wp2_with fail
 generalize w.alloc (.cells #[.int .u64 (f 0),.int .u64 (f 1),.int .u64 (f 2),.int .u64 (f 3),.int .u64 (f 4),.int .u64 (f 5)] 30)=W at *
 have HA:Hid _:=hA
 have B1:Hid _:=b1
 clear hA b1 z1
 go_region_with (first
  | (go_at_call 76;refine Calls.mono (refR_any _) ?_;rintro e w2 ⟨rfl,b2,-,m2⟩;have HB2:Hid (Below W.heap.size W w2):=(by first | exact b2 | exact below_drew b2);have AM2:Hid (At w2 (some ⟨W.heap.size,0,none⟩) 6 rL):=m2.at;clear b2 m2)
  | (go_at_call 74;refine Calls.mono (half_any (some ⟨W.heap.size,0,none⟩) 6 6 rL _ (by omega) (by omega) (by omega) AM2.out rL_rg) ?_;rintro e w3 ⟨b,rfl,b3,m3⟩;have HB3:Hid _:=Below.up HB2.out (Nat.le_refl _) b3;have AM3:Hid _:=m3.at;clear b3 m3)
  | (go_at_call 113;have kc:=refCompare_any (some ⟨w.heap.size,0,none⟩) (some ⟨b,0,none⟩) 6 6 6 6 f (hv rL 6) w3 (by omega) (by omega) (by omega) (by omega) (AtK.below HA.out HB3.out) AM3.out RF.out (hv_rg rL_rg) (by omega) (by omega);rw [hv_val (by omega),rL_val,HO.out] at kc;refine Calls.mono kc ?_;rintro e w4 ⟨rfl,b4⟩;have HB4:Hid _:=Below.up HB3.out (Nat.le_refl _) b4;clear b4 kc))
 all_goals
  go_wp2
  go_ret
  exact ⟨by rw [← HT.out];rfl,Below.up B1.out (Nat.le_refl _) HB4.out⟩
theorem greatP_any (f:Nat→Int) (w:World) (rf:Rg f 6):Calls Tryz.prog 77 #[.agg #[.int .u64 (f 0),.int .u64 (f 1),.int .u64 (f 2),.int .u64 (f 3),.int .u64 (f 4),.int .u64 (f 5)]] w fun e w'=>e=.returned (.bool (decide (RI / 2<val f 6)))∧Below w.heap.size w w':=by
 rcases Int.lt_trichotomy (val f 6) (RI / 2) with h | h | h
 ·rw [decide_eq_false (by omega)];exact greatP_at f w rf (-1) false (ord_lt h) rfl
 ·rw [decide_eq_false (by omega)];exact greatP_at f w rf 0 false (ord_eq h) rfl
 ·rw [decide_eq_true h];exact greatP_at f w rf 1 true (ord_gt h) rfl
end Go.Proofs.YthnfgmhehfombaaGreatDoor.fpn
/- What is asked of package fp: each of its functions answers the document's number, in new memory alone. -/
namespace Go.Proofs.YthnfgmhehfombaaGreatDoor.fpn
open Go.RowKit
theorem mut_not6 {w:World} {b c:Nat} {f:Nat→Int} (h:Mut w b 0 6 f) (hne:b≠c) (v0 v1 v2 v3 v4 v5:Value) :
  Mut ((((((w.setCell ⟨c,0,none⟩ v0).setCell ⟨c,1,none⟩ v1).setCell ⟨c,2,none⟩ v2).setCell ⟨c,3,none⟩ v3).setCell ⟨c,4,none⟩ v4).setCell ⟨c,5,none⟩ v5) b 0 6 f:=fun j hj=>by
 have k:=h j hj
 refine ⟨?_,by simpa using k.2⟩
 rw [World.cell?_setCell_far _ _ _ _ (fun e=>hne e.symm),World.cell?_setCell_far _ _ _ _ (fun e=>hne e.symm),World.cell?_setCell_far _ _ _ _ (fun e=>hne e.symm),World.cell?_setCell_far _ _ _ _ (fun e=>hne e.symm),World.cell?_setCell_far _ _ _ _ (fun e=>hne e.symm),World.cell?_setCell_far _ _ _ _ (fun e=>hne e.symm)]
 exact k.1
def SE:Nat:=(RN+1) / 4
def sq (a:Int):Int:=a^SE%RI
def lesser (x:Int):Int:=if RI / 2<x then (0-x)%RI else x
structure FpOk (G:World→Prop):Prop where
 stay:∀ {w x:World},G w→Below w.heap.size w x→G x
 add:∀ (f g:Nat→Int) (w:World),G w→Rg f 6→Rg g 6→val f 6<RI→val g 6<RI→Calls Tryz.prog 118 #[.agg #[.int .u64 (f 0),.int .u64 (f 1),.int .u64 (f 2),.int .u64 (f 3),.int .u64 (f 4),.int .u64 (f 5)],.agg #[.int .u64 (g 0),.int .u64 (g 1),.int .u64 (g 2),.int .u64 (g 3),.int .u64 (g 4),.int .u64 (g 5)]] w fun e w'=>∃ h:Nat→Int,e=.returned (.agg #[.int .u64 (h 0),.int .u64 (h 1),.int .u64 (h 2),.int .u64 (h 3),.int .u64 (h 4),.int .u64 (h 5)])∧Rg h 6∧val h 6=(val f 6+val g 6)%RI∧Below w.heap.size w w'
 sub:∀ (f g:Nat→Int) (w:World),G w→Rg f 6→Rg g 6→val f 6<RI→val g 6<RI→Calls Tryz.prog 125 #[.agg #[.int .u64 (f 0),.int .u64 (f 1),.int .u64 (f 2),.int .u64 (f 3),.int .u64 (f 4),.int .u64 (f 5)],.agg #[.int .u64 (g 0),.int .u64 (g 1),.int .u64 (g 2),.int .u64 (g 3),.int .u64 (g 4),.int .u64 (g 5)]] w fun e w'=>∃ h:Nat→Int,e=.returned (.agg #[.int .u64 (h 0),.int .u64 (h 1),.int .u64 (h 2),.int .u64 (h 3),.int .u64 (h 4),.int .u64 (h 5)])∧Rg h 6∧val h 6=(val f 6-val g 6)%RI∧Below w.heap.size w w'
 mul:∀ (f g:Nat→Int) (w:World),G w→Rg f 6→Rg g 6→val f 6<RI→val g 6<RI→Calls Tryz.prog 119 #[.agg #[.int .u64 (f 0),.int .u64 (f 1),.int .u64 (f 2),.int .u64 (f 3),.int .u64 (f 4),.int .u64 (f 5)],.agg #[.int .u64 (g 0),.int .u64 (g 1),.int .u64 (g 2),.int .u64 (g 3),.int .u64 (g 4),.int .u64 (g 5)]] w fun e w'=>∃ h:Nat→Int,e=.returned (.agg #[.int .u64 (h 0),.int .u64 (h 1),.int .u64 (h 2),.int .u64 (h 3),.int .u64 (h 4),.int .u64 (h 5)])∧Rg h 6∧val h 6=val f 6*val g 6%RI∧Below w.heap.size w w'
 neg:∀ (f:Nat→Int) (w:World),G w→Rg f 6→val f 6<RI→Calls Tryz.prog 145 #[.agg #[.int .u64 (f 0),.int .u64 (f 1),.int .u64 (f 2),.int .u64 (f 3),.int .u64 (f 4),.int .u64 (f 5)]] w fun e w'=>∃ h:Nat→Int,e=.returned (.agg #[.int .u64 (h 0),.int .u64 (h 1),.int .u64 (h 2),.int .u64 (h 3),.int .u64 (h 4),.int .u64 (h 5)])∧Rg h 6∧val h 6=(0-val f 6)%RI∧Below w.heap.size w w'
 of:∀ (x:Int) (w:World),G w→0≤x∧x<B64→Calls Tryz.prog 120 #[.int .u64 x] w fun e w'=>∃ h:Nat→Int,e=.returned (.agg #[.int .u64 (h 0),.int .u64 (h 1),.int .u64 (h 2),.int .u64 (h 3),.int .u64 (h 4),.int .u64 (h 5)])∧Rg h 6∧val h 6=x∧Below w.heap.size w w'
 inv0:∀ (f:Nat→Int) (w:World),G w→Rg f 6→val f 6=0→Calls Tryz.prog 158 #[.agg #[.int .u64 (f 0),.int .u64 (f 1),.int .u64 (f 2),.int .u64 (f 3),.int .u64 (f 4),.int .u64 (f 5)]] w fun e w'=>∃ h:Nat→Int,e=.returned (.tuple #[.agg #[.int .u64 (h 0),.int .u64 (h 1),.int .u64 (h 2),.int .u64 (h 3),.int .u64 (h 4),.int .u64 (h 5)],.int .i64 7])∧Rg h 6∧val h 6=0∧Below w.heap.size w w'
 inv:∀ (f:Nat→Int) (w:World),G w→Rg f 6→val f 6<RI→val f 6≠0→Calls Tryz.prog 158 #[.agg #[.int .u64 (f 0),.int .u64 (f 1),.int .u64 (f 2),.int .u64 (f 3),.int .u64 (f 4),.int .u64 (f 5)]] w fun e w'=>∃ h:Nat→Int,e=.returned (.tuple #[.agg #[.int .u64 (h 0),.int .u64 (h 1),.int .u64 (h 2),.int .u64 (h 3),.int .u64 (h 4),.int .u64 (h 5)],.int .i64 0])∧Rg h 6∧val h 6=val f 6^(RN-2)%RI∧Below w.heap.size w w'
 pow:∀ (f:Nat→Int) (p:Option Addr) (n c:Nat) (g:Nat→Int) (E:Nat) (w:World),G w→Rg f 6→val f 6<RI→n≤24→n≤c→c≤9223372036854775807→At w p n g→Rg g n→val g n=(E:Int)→Calls Tryz.prog 166 #[.agg #[.int .u64 (f 0),.int .u64 (f 1),.int .u64 (f 2),.int .u64 (f 3),.int .u64 (f 4),.int .u64 (f 5)],.slice p n c] w fun e w'=>∃ h:Nat→Int,e=.returned (.agg #[.int .u64 (h 0),.int .u64 (h 1),.int .u64 (h 2),.int .u64 (h 3),.int .u64 (h 4),.int .u64 (h 5)])∧Rg h 6∧val h 6=val f 6^E%RI∧Below w.heap.size w w'
 may:∀ (f:Nat→Int) (w:World),G w→Rg f 6→Calls Tryz.prog 116 #[.agg #[.int .u64 (f 0),.int .u64 (f 1),.int .u64 (f 2),.int .u64 (f 3),.int .u64 (f 4),.int .u64 (f 5)]] w fun e w'=>e=.returned (.bool (decide (val f 6<RI)))∧Below w.heap.size w w'
end Go.Proofs.YthnfgmhehfombaaGreatDoor.fpn
/- Numbers: which are prime (trial division; Pocklington), and Fermat's little theorem. -/
namespace Go.Proofs.YthnfgmhehfombaaGreatDoor
def Pr (n:Nat):Prop:=2≤n∧∀ d,d ∣ n→d=1∨d=n
theorem Pr.cop {p a:Nat} (hp:Pr p) (h:¬ p ∣ a):Nat.Coprime p a:=by
 rcases hp.2 _ (Nat.gcd_dvd_left p a) with e | e
 ·exact e
 ·exact absurd (e▸Nat.gcd_dvd_right p a) h
theorem Pr.of_mul {p a b:Nat} (hp:Pr p) (h:p ∣ a*b):p ∣ a∨p ∣ b:=by
 by_cases ha:p ∣ a
 ·exact .inl ha
 ·exact .inr ((hp.cop ha).dvd_of_dvd_mul_left h)
theorem Pr.ex:∀ (n:Nat),2≤n→∃ q,Pr q∧q ∣ n:=by
 intro n
 induction n using Nat.strongRecOn with
 | _ n ih =>
  intro h2
  by_cases hp:Pr n
  ·exact ⟨n,hp,Nat.dvd_refl n⟩
  ·have:∃ d,d ∣ n∧¬ (d=1∨d=n):=by
    apply Classical.byContradiction
    intro hn
    apply hp
    refine ⟨h2,fun d hd=>?_⟩
    apply Classical.byContradiction
    intro hc
    exact hn ⟨d,hd,hc⟩
   obtain ⟨d,hd,hc⟩:=this
   have hle:=Nat.le_of_dvd (by omega) hd
   have h0:d≠0:=by rintro rfl;have:=Nat.eq_zero_of_zero_dvd hd;omega
   obtain ⟨q,hq,hqd⟩:=ih d (by omega) (by omega)
   exact ⟨q,hq,Nat.dvd_trans hqd hd⟩
theorem Pr.big {n:Nat} (h2:2≤n) (h:∀ q,Pr q→q ∣ n→n<q*q):Pr n:=by
 refine ⟨h2,fun d hd=>?_⟩
 apply Classical.byContradiction
 intro hc
 obtain ⟨e,rfl⟩:=hd
 have hd0:d≠0:=by rintro rfl;simp at h2
 have he0:e≠0:=by rintro rfl;simp at h2
 have hd1:d≠1:=fun h=>hc (.inl h)
 have he1:e≠1:=by rintro rfl;exact hc (.inr (by simp))
 obtain ⟨q,hq,hqd⟩:=Pr.ex d (by omega)
 obtain ⟨r,hr,hre⟩:=Pr.ex e (by omega)
 have a1:=h q hq (Nat.dvd_mul_right_of_dvd hqd e)
 have a2:=h r hr (Nat.dvd_mul_left_of_dvd hre d)
 have b1:=Nat.le_of_dvd (by omega) hqd
 have b2:=Nat.le_of_dvd (by omega) hre
 rcases Nat.le_total q r with c | c
 ·have:=Nat.mul_le_mul b1 (Nat.le_trans c b2);have:=Nat.mul_le_mul_left q c
  have:=Nat.mul_le_mul b1 (Nat.le_trans c b2);omega
 ·have:=Nat.mul_le_mul_right r c;have:=Nat.mul_le_mul (Nat.le_trans c b1) b2;omega
def td (n:Nat):Nat→Bool
 | 0=>true
 | d+1=>Nat.blt 0 (n%(d+2)) && td n d
theorem td_no {n:Nat}:∀ {k:Nat},td n k=true→∀ d,2≤d→d≤k+1→¬ d ∣ n
 | 0,_,d,h1,h2,_=>by omega
 | k+1,h,d,h1,h2,hd=>by
  simp only [td,Bool.and_eq_true] at h
  by_cases e:d=k+2
  ·subst e
   have:0<n%(k+2):=by simpa [Nat.blt_eq] using h.1
   have:=Nat.mod_eq_zero_of_dvd hd
   omega
  ·exact td_no h.2 d h1 (by omega) hd
theorem Pr.td {n k:Nat} (h:td n k=true) (h2:2≤n) (hk:n<(k+2)*(k+2)):Pr n:=by
 refine Pr.big h2 fun q hq hqn=>?_
 have:¬ q≤k+1:=fun hle=>td_no h q hq.1 hle hqn
 have:=Nat.mul_le_mul (show k+2≤q by omega) (show k+2≤q by omega)
 omega
def pm (m a:Nat):Nat→Nat→Nat
 | 0,_=>1%m
 | f+1,e=>(pm m a f (e / 2))^2%m*a^(e%2)%m
theorem pm_eq (m a:Nat):∀ (f e:Nat),e<2^f→pm m a f e=a^e%m
 | 0,e,h=>by
  have:e=0:=by simpa using h
  subst this;simp [pm]
 | f+1,e,h=>by
  have h':e / 2<2^f:=by rw [Nat.pow_succ] at h;omega
  rw [pm,pm_eq m a f _ h',← Nat.pow_mod,← Nat.pow_mul,Nat.mod_mul_mod,← Nat.pow_add]
  congr 2;omega
def ch:Nat→Nat→Nat
 | _,0=>1
 | 0,_+1=>0
 | n+1,k+1=>ch n k+ch n (k+1)
theorem ch_zero (n:Nat):ch n 0=1:=by cases n<;>rfl
theorem ch_succ (n k:Nat):ch (n+1) (k+1)=ch n k+ch n (k+1):=rfl
theorem ch_over:∀ (n k:Nat),n<k→ch n k=0
 | 0,0,h=>by omega
 | 0,_+1,_=>rfl
 | _+1,0,h=>by omega
 | n+1,k+1,h=>by rw [ch_succ,ch_over n k (by omega),ch_over n (k+1) (by omega)]
theorem ch_self:∀ n,ch n n=1
 | 0=>rfl
 | n+1=>by rw [ch_succ,ch_self n,ch_over n (n+1) (by omega)]
theorem ch_mul:∀ n k,(k+1)*ch (n+1) (k+1)=(n+1)*ch n k
 | 0,0=>rfl
 | 0,k+1=>by rw [ch_succ,ch_over 0 (k+1) (by omega),ch_over 0 (k+2) (by omega)];simp
 | n+1,0=>by
  have:=ch_mul n 0
  rw [ch_succ,ch_zero]
  rw [ch_zero] at this
  omega
 | n+1,k+1=>by
  have h1:=ch_mul n k
  have h2:=ch_mul n (k+1)
  rw [ch_succ (n+1) (k+1),Nat.mul_add,h2]
  have h3:(k+1+1)*ch (n+1) (k+1)=(k+1)*ch (n+1) (k+1)+ch (n+1) (k+1):=by
   rw [Nat.add_mul (k+1) 1,Nat.one_mul]
  rw [h3,h1,Nat.add_mul (n+1) 1,Nat.one_mul]
  have h4:(n+1)*ch (n+1) (k+1)=(n+1)*ch n k+(n+1)*ch n (k+1):=by
   rw [ch_succ,Nat.mul_add]
  omega
def bs (n a:Nat):Nat→Nat
 | 0=>0
 | k+1=>bs n a k+ch n k*a^k
theorem bs_succ (n a:Nat):∀ k,bs (n+1) a (k+1)=bs n a (k+1)+a*bs n a k
 | 0=>by simp [bs,ch_zero]
 | k+1=>by
  rw [bs,bs_succ n a k,bs,bs,bs,ch_succ,Nat.add_mul,Nat.mul_add a,Nat.pow_succ]
  have:a*(ch n k*a^k)=ch n k*(a^k*a):=by
   rw [Nat.mul_comm a,Nat.mul_assoc]
  rw [this];omega
theorem binom (a:Nat):∀ n,(a+1)^n=bs n a (n+1)
 | 0=>by simp [bs,ch_zero]
 | n+1=>by
  rw [bs_succ,bs,ch_over n (n+1) (by omega),Nat.zero_mul,Nat.add_zero,← binom a n,Nat.pow_succ,
   Nat.mul_add,Nat.mul_one,Nat.mul_comm a]
  omega
theorem bs_pr {p:Nat} (hp:Pr p) (a:Nat):∀ k,k<p→bs p a (k+1)%p=1%p
 | 0,_=>by simp [bs,ch_zero]
 | k+1,h=>by
  have ih:=bs_pr hp a k (by omega)
  have:p ∣ ch p (k+1):=by
   obtain ⟨n,rfl⟩:∃ n,p=n+1:=⟨p-1,by omega⟩
   have hm:=ch_mul n k
   have hd:(n+1) ∣ (k+1)*ch (n+1) (k+1):=hm▸Nat.dvd_mul_right _ _
   rcases hp.of_mul hd with h1 | h1
   ·have:=Nat.le_of_dvd (by omega) h1;omega
   ·exact h1
  obtain ⟨c,hc⟩:=this
  rw [bs,hc,Nat.mul_assoc,Nat.add_mul_mod_self_left,ih]
theorem dream {p:Nat} (hp:Pr p) (a:Nat):(a+1)^p%p=(a^p+1)%p:=by
 have h2:=hp.1
 rw [binom,bs,ch_self,Nat.one_mul]
 have:=bs_pr hp a (p-1) (by omega)
 rw [show p-1+1=p by omega] at this
 rw [Nat.add_mod,this,← Nat.add_mod,Nat.add_comm]
theorem fermat' {p:Nat} (hp:Pr p):∀ a,a^p%p=a%p
 | 0=>by rw [Nat.zero_pow (by have:=hp.1;omega)]
 | a+1=>by rw [dream hp,Nat.add_mod,fermat' hp a,← Nat.add_mod]
theorem dvd_sub_of_mod {p a b:Nat} (h:a%p=b%p):p ∣ a-b:=by
 have:=Nat.sub_mod_eq_zero_of_mod_eq h
 exact Nat.dvd_of_mod_eq_zero this
theorem mod_of_dvd_sub {p a b:Nat} (h:p ∣ a-b) (hle:b≤a):a%p=b%p:=by
 obtain ⟨c,hc⟩:=h
 rw [show a=b+p*c by omega,Nat.add_mul_mod_self_left]
theorem fermat {p a:Nat} (hp:Pr p) (ha:¬ p ∣ a):a^(p-1)%p=1:=by
 have h2:=hp.1
 have h0:0<a:=Nat.pos_of_ne_zero (by rintro rfl;exact ha (Nat.dvd_zero p))
 have hpos:1≤a^(p-1):=Nat.pow_pos h0
 have e:a^p=a*a^(p-1):=by
  conv=>lhs;rw [show p=(p-1)+1 by omega,Nat.pow_succ,Nat.mul_comm]
 have hd:p ∣ a*(a^(p-1)-1):=by
  rw [Nat.mul_sub,← e,Nat.mul_one]
  exact dvd_sub_of_mod (fermat' hp a)
 rcases hp.of_mul hd with h | h
 ·exact absurd h ha
 ·rw [mod_of_dvd_sub h hpos,Nat.mod_eq_of_lt (by omega)]
theorem pow_one_mod {q a k:Nat} (h:a^k%q=1%q) (l:Nat):a^(k*l)%q=1%q:=by
 rw [Nat.pow_mul,Nat.pow_mod,h,← Nat.pow_mod,Nat.one_pow]
theorem pow_gcd (q a:Nat):∀ k l,a^k%q=1%q→a^l%q=1%q→a^(Nat.gcd k l)%q=1%q:=by
 intro k l
 induction k,l using Nat.gcd.induction with
 | H0 n=>intro _ h;simpa using h
 | H1 m n hm ih =>
  intro h1 h2
  rw [Nat.gcd_rec]
  refine ih ?_ h1
  have h3:a^n=a^(m*(n / m))*a^(n%m):=by rw [← Nat.pow_add,Nat.div_add_mod]
  rw [h3,Nat.mul_mod,pow_one_mod h1,← Nat.mul_mod,Nat.one_mul] at h2
  exact h2
theorem pock1 {n q p e a:Nat} (hq:Pr q) (hp:Pr p) (hF:p^e ∣ n-1)
  (h1:a^(n-1)%q=1%q) (h2:¬ a^((n-1) / p)%q=1%q) (hn:2≤n):p^e ∣ q-1:=by
 have hqa:¬ q ∣ a:=by
  intro h
  have:q ∣ a^(n-1):=Nat.dvd_trans h (by
   conv=>lhs;rw [← Nat.pow_one a]
   exact Nat.pow_dvd_pow a (by omega))
  have:=Nat.mod_eq_zero_of_dvd this
  rw [this,Nat.mod_eq_of_lt (by have:=hq.1;omega)] at h1
  omega
 have hf:a^(q-1)%q=1%q:=by
  rw [fermat hq hqa,Nat.mod_eq_of_lt (by have:=hq.1;omega)]
 have hg:=pow_gcd q a _ _ h1 hf
 obtain ⟨h,hh⟩:=Nat.gcd_dvd_left (n-1) (q-1)
 have hph:¬ p ∣ h:=by
  rintro ⟨c,rfl⟩
  apply h2
  have hp0:0<p:=by have:=hp.1;omega
  have:(n-1) / p=Nat.gcd (n-1) (q-1)*c:=by
   apply Nat.div_eq_of_eq_mul_left hp0
   conv=>lhs;rw [hh]
   rw [Nat.mul_assoc,Nat.mul_comm p c]
  rw [this]
  exact pow_one_mod hg c
 have hc:Nat.Coprime (p^e) h:=Nat.Coprime.pow_left e (hp.cop hph)
 have:p^e ∣ Nat.gcd (n-1) (q-1):=hc.dvd_of_dvd_mul_right (hh▸hF)
 exact Nat.dvd_trans this (Nat.gcd_dvd_right _ _)
def cert (n f p e a:Nat):Bool :=
 Nat.beq ((n-1)%p^e) 0 && Nat.beq (pm n a f (n-1)) 1 && Nat.beq (Nat.gcd (pm n a f ((n-1) / p)+(n-1)) n) 1
theorem cert_dvd {n f p e a q:Nat} (h:cert n f p e a=true) (hf:n<2^f) (hn:2≤n) (hp:Pr p) (hq:Pr q) (hqn:q ∣ n):p^e ∣ q-1:=by
 simp only [cert,Bool.and_eq_true,Nat.beq_eq] at h
 obtain ⟨⟨h1,h3⟩,h4⟩:=h
 rw [pm_eq _ _ _ _ (by omega)] at h3
 rw [pm_eq _ _ _ _ (by have:=Nat.div_le_self (n-1) p;omega)] at h4
 have hq2:=hq.1
 refine pock1 hq hp (Nat.dvd_of_mod_eq_zero h1) (a:=a) ?_ ?_ hn
 ·rw [← Nat.mod_mod_of_dvd _ hqn,h3]
 ·intro hc
  have hd:q ∣ a^((n-1) / p)%n+(n-1):=by
   apply Nat.dvd_of_mod_eq_zero
   obtain ⟨c,hc'⟩:=hqn
   have e1:(a^((n-1) / p)%n)%q=1%q:=by
    rw [Nat.mod_mod_of_dvd _ ⟨c,hc'⟩,hc]
   rw [Nat.add_mod,e1,← Nat.add_mod,show 1+(n-1)=n by omega,hc',Nat.mul_mod_right]
  have:=Nat.dvd_gcd hd hqn
  rw [h4] at this
  have:=Nat.le_of_dvd (by omega) this
  omega
theorem Pr.of_F {n F:Nat} (hn:2≤n) (hF:n≤F*F) (h:∀ q,Pr q→q ∣ n→F ∣ q-1):Pr n:=by
 refine Pr.big hn fun q hq hqn=>?_
 have h2:=hq.1
 have:=Nat.le_of_dvd (by omega) (h q hq hqn)
 have:=Nat.mul_le_mul (show F+1≤q by omega) (show F+1≤q by omega)
 have:(F+1)*(F+1)=F*F+2*F+1:=by rw [Nat.add_mul,Nat.mul_add];omega
 omega
end Go.Proofs.YthnfgmhehfombaaGreatDoor
/- The moduli of the scalars and of the base field are primes. -/
namespace Go.Proofs.YthnfgmhehfombaaGreatDoor
theorem pr_2:Pr 2:=Pr.td (k:=0) (by decide +kernel) (by decide) (by decide)
theorem pr_254760293:Pr 254760293:=Pr.td (k:=15960) (by decide +kernel) (by decide) (by decide)
theorem pr_52437899:Pr 52437899:=Pr.td (k:=7240) (by decide +kernel) (by decide) (by decide)
theorem pr_906349:Pr 906349:=Pr.td (k:=951) (by decide +kernel) (by decide) (by decide)
theorem pr_R:Pr 52435875175126190479447740508185965837690552500527637822603658699938581184513:=by
 refine Pr.of_F (F:=12007692098914813156957407318437874572875268096) (by decide +kernel) (by decide +kernel) fun q hq hqn=>?_
 have h0:=cert_dvd (n:=52435875175126190479447740508185965837690552500527637822603658699938581184513) (f:=255) (p:=2) (e:=32) (a:=5) (by decide +kernel) (by decide +kernel) (by decide +kernel) pr_2 hq hqn
 have h1:=cert_dvd (n:=52435875175126190479447740508185965837690552500527637822603658699938581184513) (f:=255) (p:=254760293) (e:=2) (a:=2) (by decide +kernel) (by decide +kernel) (by decide +kernel) pr_254760293 hq hqn
 have h2:=cert_dvd (n:=52435875175126190479447740508185965837690552500527637822603658699938581184513) (f:=255) (p:=52437899) (e:=1) (a:=2) (by decide +kernel) (by decide +kernel) (by decide +kernel) pr_52437899 hq hqn
 have h3:=cert_dvd (n:=52435875175126190479447740508185965837690552500527637822603658699938581184513) (f:=255) (p:=906349) (e:=2) (a:=2) (by decide +kernel) (by decide +kernel) (by decide +kernel) pr_906349 hq hqn
 have g1:=Nat.Coprime.mul_dvd_of_dvd_of_dvd (show Nat.Coprime _ _ by decide +kernel) h0 h1
 have g2:=Nat.Coprime.mul_dvd_of_dvd_of_dvd (show Nat.Coprime _ _ by decide +kernel) g1 h2
 have g3:=Nat.Coprime.mul_dvd_of_dvd_of_dvd (show Nat.Coprime _ _ by decide +kernel) g2 h3
 exact Nat.dvd_trans (Nat.dvd_of_mod_eq_zero (by decide +kernel)) g3
theorem pr_421987:Pr 421987:=Pr.td (k:=648) (by decide +kernel) (by decide) (by decide)
theorem pr_755057:Pr 755057:=Pr.td (k:=867) (by decide +kernel) (by decide) (by decide)
theorem pr_13090036741:Pr 13090036741:=by
 refine Pr.of_F (F:=421987) (by decide +kernel) (by decide +kernel) fun q hq hqn=>?_
 have h0:=cert_dvd (n:=13090036741) (f:=34) (p:=421987) (e:=1) (a:=2) (by decide +kernel) (by decide +kernel) (by decide +kernel) pr_421987 hq hqn
 exact Nat.dvd_trans (Nat.dvd_of_mod_eq_zero (by decide +kernel)) h0
theorem pr_381966_72:Pr 3819663927398918131021:=by
 refine Pr.of_F (F:=9883723871549237) (by decide +kernel) (by decide +kernel) fun q hq hqn=>?_
 have h0:=cert_dvd (n:=3819663927398918131021) (f:=72) (p:=13090036741) (e:=1) (a:=2) (by decide +kernel) (by decide +kernel) (by decide +kernel) pr_13090036741 hq hqn
 have h1:=cert_dvd (n:=3819663927398918131021) (f:=72) (p:=755057) (e:=1) (a:=2) (by decide +kernel) (by decide +kernel) (by decide +kernel) pr_755057 hq hqn
 have g1:=Nat.Coprime.mul_dvd_of_dvd_of_dvd (show Nat.Coprime _ _ by decide +kernel) h0 h1
 exact Nat.dvd_trans (Nat.dvd_of_mod_eq_zero (by decide +kernel)) g1
theorem pr_112526_120:Pr 1125266252156850182658904441386709967:=by
 refine Pr.of_F (F:=3819663927398918131021) (by decide +kernel) (by decide +kernel) fun q hq hqn=>?_
 have h0:=cert_dvd (n:=1125266252156850182658904441386709967) (f:=120) (p:=3819663927398918131021) (e:=1) (a:=2) (by decide +kernel) (by decide +kernel) (by decide +kernel) pr_381966_72 hq hqn
 exact Nat.dvd_trans (Nat.dvd_of_mod_eq_zero (by decide +kernel)) h0
theorem pr_157784_234:Pr 15778400344354997994418419698270088123916926905054652752758194827714659:=by
 refine Pr.of_F (F:=1125266252156850182658904441386709967) (by decide +kernel) (by decide +kernel) fun q hq hqn=>?_
 have h0:=cert_dvd (n:=15778400344354997994418419698270088123916926905054652752758194827714659) (f:=234) (p:=1125266252156850182658904441386709967) (e:=1) (a:=2) (by decide +kernel) (by decide +kernel) (by decide +kernel) pr_112526_120 hq hqn
 exact Nat.dvd_trans (Nat.dvd_of_mod_eq_zero (by decide +kernel)) h0
theorem pr_P:Pr 4002409555221667393417789825735904156556882819939007885332058136124031650490837864442687629129015664037894272559787:=by
 refine Pr.of_F (F:=15778400344354997994418419698270088123916926905054652752758194827714659) (by decide +kernel) (by decide +kernel) fun q hq hqn=>?_
 have h0:=cert_dvd (n:=4002409555221667393417789825735904156556882819939007885332058136124031650490837864442687629129015664037894272559787) (f:=381) (p:=15778400344354997994418419698270088123916926905054652752758194827714659) (e:=1) (a:=2) (by decide +kernel) (by decide +kernel) (by decide +kernel) pr_157784_234 hq hqn
 exact Nat.dvd_trans (Nat.dvd_of_mod_eq_zero (by decide +kernel)) h0
end Go.Proofs.YthnfgmhehfombaaGreatDoor
/- Numbers modulo P: Fermat, inverses, roots. No program is named here. -/
namespace Go.Proofs.YthnfgmhehfombaaGreatDoor.fpn
theorem pr_RN:Pr RN:=pr_P
theorem cast_pow_mod (a e m:Nat):((a^e%m:Nat):Int)=(a:Int)^e%(m:Int):=by
 rw [Int.natCast_emod,Int.natCast_pow]
theorem ndvd {A:Int} {a:Nat} (h:A=(a:Int)) (h0:A≠0) (h1:A<RI):¬ RN ∣ a:=fun hd=>by
 rw [RI_RN] at h1
 have:=Nat.le_of_dvd (by omega) hd
 omega
theorem fermatI {A:Int} (hp:0≤A) (h0:A≠0) (h1:A<RI):A^(RN-1)%RI=1:=by
 obtain ⟨a,rfl⟩:=Int.eq_ofNat_of_zero_le hp
 have:=fermat pr_RN (ndvd rfl h0 h1)
 rw [RI_RN,← cast_pow_mod,this];rfl
theorem invI {A:Int} (hp:0≤A) (h0:A≠0) (h1:A<RI):A*(A^(RN-2)%RI)%RI=1:=by
 rw [mul_mod_r,Int.mul_comm,← Int.pow_succ,show (RN-2).succ=RN-1 by decide +kernel]
 exact fermatI hp h0 h1
end Go.Proofs.YthnfgmhehfombaaGreatDoor.fpn
/- What the inner functions mulAdd, lessR, plusR, bring of package fr answer, and Of, R, May, Add, Sub, Neg. -/
namespace Go.Proofs.YthnfgmhehfombaaGreatDoor.fpn
open Go.RowKit
attribute [local go_sem ↓] Go.wp_at_zero Go.wp_at_succ
theorem below_three (w:World) (a b c:Obj):Below w.heap.size w (((w.alloc a).alloc b).alloc c):=Below.up (below_two _ _ _) (Nat.le_refl _) (below_one _ _)
theorem muladd_arith {P p q:Int} (h0:0≤P) (h1:P≤(B64-1)*(B64-1)) (hp:0≤p∧p<B64) (hq:0≤q∧q<B64) :
  IntKind.u64.wrap (IntKind.u64.wrap (P / B64+(P%B64+p) / B64)+((P%B64+p)%B64+q) / B64)=(P+p+q) / B64∧((P%B64+p)%B64+q)%B64=(P+p+q)%B64:=by
 rw [IntKind.wrap_u64,IntKind.wrap_u64]
 rw [B64_eq] at *
 refine ⟨by omega,by omega⟩
theorem mulAdd_any (x y p q:Int) (w:World) (hx:0≤x∧x<B64) (hy:0≤y∧y<B64) (hp:0≤p∧p<B64) (hq:0≤q∧q<B64) :
  Calls Tryz.prog 151 #[.int .u64 x,.int .u64 y,.int .u64 p,.int .u64 q] w fun e w'=>e=.returned (.tuple #[.int .u64 ((x*y+p+q) / B64),.int .u64 ((x*y+p+q)%B64)])∧w'=w:=by
 have p0:=Int.mul_nonneg hx.1 hy.1
 have p1:=Int.mul_le_mul (show x≤B64-1 by omega) (show y≤B64-1 by omega) hy.1 (by have:=B64_pos;omega)
 have M:Hid _:=mul64_any x y hx hy
 have q1:0≤x*y%B64:=Int.emod_nonneg _ (by rw [B64_eq];decide)
 have q2:0≤(x*y%B64+p+0)%B64:=Int.emod_nonneg _ (by rw [B64_eq];decide)
 have h1:=add64_call (x*y%B64) p 0 q1 hp.1 ⟨by decide,by decide⟩
 have h2:=add64_call ((x*y%B64+p+0)%B64) q 0 q2 hq.1 ⟨by decide,by decide⟩
 simp only [Int.add_zero] at h1 h2
 obtain ⟨a1,a2⟩:=muladd_arith p0 p1 hp hq
 have A1:Hid _:=a1
 rw [← a2]
 clear q1 q2 a1 a2 p0 p1 hx hy hp hq
 generalize (x*y+p+q) / B64=H at *
 generalize x*y / B64=t1 at *
 generalize x*y%B64=t2 at *
 generalize (t2+p) / B64=t3 at *
 generalize (t2+p)%B64=t4 at *
 generalize (t4+q) / B64=t5 at *
 generalize (t4+q)%B64=t6 at *
 go_enter Tryz.func151,Tryz.ntmps151
 go_wp2_with (go_at_call 59;refine Calls.mono (M.out _) ?_;rintro e w' ⟨rfl,rfl⟩)
 refine bodyPost_ret (v:=.tuple #[.int .u64 H,.int .u64 t6]) (by simp [results,Tryz.results151,go_sem,A1.out]) rfl ⟨rfl,rfl⟩
theorem lessR_val {f:Nat→Int} (rf:Rg f 6):val (df f rL) 6+RI=val f 6+bw f rL 6*pw 6:=by
 rw [← rL_val];exact val_df rf rL_rg
theorem prime_any (w:World):Calls Tryz.prog 136 #[] w fun e w'=>e=.returned (.agg #[.int .u64 (rL 0),.int .u64 (rL 1),.int .u64 (rL 2),.int .u64 (rL 3),.int .u64 (rL 4),.int .u64 (rL 5)])∧Below w.heap.size w w':=by
 go_enter Tryz.func136,Tryz.ntmps136
 go_wp2
 refine bodyPost_ret (v:=.agg #[.int .u64 (rL 0),.int .u64 (rL 1),.int .u64 (rL 2),.int .u64 (rL 3),.int .u64 (rL 4),.int .u64 (rL 5)]) (by simp [results,Tryz.results136,go_sem,rL]) rfl ⟨rfl,below_one _ _⟩
theorem less_any (f g:Nat→Int) (w:World) (rf:Rg f 6) (rg:Rg g 6) :
  Calls Tryz.prog 135 #[.agg #[.int .u64 (f 0),.int .u64 (f 1),.int .u64 (f 2),.int .u64 (f 3),.int .u64 (f 4),.int .u64 (f 5)],.agg #[.int .u64 (g 0),.int .u64 (g 1),.int .u64 (g 2),.int .u64 (g 3),.int .u64 (g 4),.int .u64 (g 5)]] w fun e w'=>e=.returned (.tuple #[.agg #[.int .u64 (df f g 0),.int .u64 (df f g 1),.int .u64 (df f g 2),.int .u64 (df f g 3),.int .u64 (df f g 4),.int .u64 (df f g 5)],.int .u64 (bw f g 6)])∧Below w.heap.size w w':=by
 have s0:∀ w,(callFunc 89 #[.int .u64 (f 0),.int .u64 (g 0),.int .u64 0]).run Tryz.prog w=.ok (.value (.tuple #[.int .u64 (df f g 0),.int .u64 (bw f g 1)])) w:=fun w=>sub64_call (f 0) (g 0) (bw f g 0) (rf 0 (by omega)) (rg 0 (by omega)) (bw_bd _ _ _) w
 have s1:∀ w,(callFunc 89 #[.int .u64 (f 1),.int .u64 (g 1),.int .u64 (bw f g 1)]).run Tryz.prog w=.ok (.value (.tuple #[.int .u64 (df f g 1),.int .u64 (bw f g 2)])) w:=fun w=>sub64_call (f 1) (g 1) (bw f g 1) (rf 1 (by omega)) (rg 1 (by omega)) (bw_bd _ _ _) w
 have s2:∀ w,(callFunc 89 #[.int .u64 (f 2),.int .u64 (g 2),.int .u64 (bw f g 2)]).run Tryz.prog w=.ok (.value (.tuple #[.int .u64 (df f g 2),.int .u64 (bw f g 3)])) w:=fun w=>sub64_call (f 2) (g 2) (bw f g 2) (rf 2 (by omega)) (rg 2 (by omega)) (bw_bd _ _ _) w
 have s3:∀ w,(callFunc 89 #[.int .u64 (f 3),.int .u64 (g 3),.int .u64 (bw f g 3)]).run Tryz.prog w=.ok (.value (.tuple #[.int .u64 (df f g 3),.int .u64 (bw f g 4)])) w:=fun w=>sub64_call (f 3) (g 3) (bw f g 3) (rf 3 (by omega)) (rg 3 (by omega)) (bw_bd _ _ _) w
 have s4:∀ w,(callFunc 89 #[.int .u64 (f 4),.int .u64 (g 4),.int .u64 (bw f g 4)]).run Tryz.prog w=.ok (.value (.tuple #[.int .u64 (df f g 4),.int .u64 (bw f g 5)])) w:=fun w=>sub64_call (f 4) (g 4) (bw f g 4) (rf 4 (by omega)) (rg 4 (by omega)) (bw_bd _ _ _) w
 have s5:∀ w,(callFunc 89 #[.int .u64 (f 5),.int .u64 (g 5),.int .u64 (bw f g 5)]).run Tryz.prog w=.ok (.value (.tuple #[.int .u64 (df f g 5),.int .u64 (bw f g 6)])) w:=fun w=>sub64_call (f 5) (g 5) (bw f g 5) (rf 5 (by omega)) (rg 5 (by omega)) (bw_bd _ _ _) w
 clear rg rf
 go_enter Tryz.func135,Tryz.ntmps135
 go_wp2
 refine bodyPost_ret (v:=.tuple #[.agg #[.int .u64 (df f g 0),.int .u64 (df f g 1),.int .u64 (df f g 2),.int .u64 (df f g 3),.int .u64 (df f g 4),.int .u64 (df f g 5)],.int .u64 (bw f g 6)]) (by simp [results,Tryz.results135,go_sem]) rfl ⟨rfl,below_three _ _ _ _⟩
theorem plus_any (f g:Nat→Int) (w:World) (rf:Rg f 6) (rg:Rg g 6) :
  Calls Tryz.prog 138 #[.agg #[.int .u64 (f 0),.int .u64 (f 1),.int .u64 (f 2),.int .u64 (f 3),.int .u64 (f 4),.int .u64 (f 5)],.agg #[.int .u64 (g 0),.int .u64 (g 1),.int .u64 (g 2),.int .u64 (g 3),.int .u64 (g 4),.int .u64 (g 5)]] w fun e w'=>e=.returned (.agg #[.int .u64 (sm f g 0 0),.int .u64 (sm f g 0 1),.int .u64 (sm f g 0 2),.int .u64 (sm f g 0 3),.int .u64 (sm f g 0 4),.int .u64 (sm f g 0 5)])∧Below w.heap.size w w':=by
 have s0:∀ w,(callFunc 57 #[.int .u64 (f 0),.int .u64 (g 0),.int .u64 0]).run Tryz.prog w=.ok (.value (.tuple #[.int .u64 (sm f g 0 0),.int .u64 (cy f g 0 1)])) w:=fun w=>add64_call (f 0) (g 0) (cy f g 0 0) (rf 0 (by omega)).1 (rg 0 (by omega)).1 (cy_bd (rf.mono (by omega)) (rg.mono (by omega)) ⟨by decide,by decide⟩) w
 have s1:∀ w,(callFunc 57 #[.int .u64 (f 1),.int .u64 (g 1),.int .u64 (cy f g 0 1)]).run Tryz.prog w=.ok (.value (.tuple #[.int .u64 (sm f g 0 1),.int .u64 (cy f g 0 2)])) w:=fun w=>add64_call (f 1) (g 1) (cy f g 0 1) (rf 1 (by omega)).1 (rg 1 (by omega)).1 (cy_bd (rf.mono (by omega)) (rg.mono (by omega)) ⟨by decide,by decide⟩) w
 have s2:∀ w,(callFunc 57 #[.int .u64 (f 2),.int .u64 (g 2),.int .u64 (cy f g 0 2)]).run Tryz.prog w=.ok (.value (.tuple #[.int .u64 (sm f g 0 2),.int .u64 (cy f g 0 3)])) w:=fun w=>add64_call (f 2) (g 2) (cy f g 0 2) (rf 2 (by omega)).1 (rg 2 (by omega)).1 (cy_bd (rf.mono (by omega)) (rg.mono (by omega)) ⟨by decide,by decide⟩) w
 have s3:∀ w,(callFunc 57 #[.int .u64 (f 3),.int .u64 (g 3),.int .u64 (cy f g 0 3)]).run Tryz.prog w=.ok (.value (.tuple #[.int .u64 (sm f g 0 3),.int .u64 (cy f g 0 4)])) w:=fun w=>add64_call (f 3) (g 3) (cy f g 0 3) (rf 3 (by omega)).1 (rg 3 (by omega)).1 (cy_bd (rf.mono (by omega)) (rg.mono (by omega)) ⟨by decide,by decide⟩) w
 have s4:∀ w,(callFunc 57 #[.int .u64 (f 4),.int .u64 (g 4),.int .u64 (cy f g 0 4)]).run Tryz.prog w=.ok (.value (.tuple #[.int .u64 (sm f g 0 4),.int .u64 (cy f g 0 5)])) w:=fun w=>add64_call (f 4) (g 4) (cy f g 0 4) (rf 4 (by omega)).1 (rg 4 (by omega)).1 (cy_bd (rf.mono (by omega)) (rg.mono (by omega)) ⟨by decide,by decide⟩) w
 have s5:∀ w,(callFunc 57 #[.int .u64 (f 5),.int .u64 (g 5),.int .u64 (cy f g 0 5)]).run Tryz.prog w=.ok (.value (.tuple #[.int .u64 (sm f g 0 5),.int .u64 (cy f g 0 6)])) w:=fun w=>add64_call (f 5) (g 5) (cy f g 0 5) (rf 5 (by omega)).1 (rg 5 (by omega)).1 (cy_bd (rf.mono (by omega)) (rg.mono (by omega)) ⟨by decide,by decide⟩) w
 clear rg rf
 go_enter Tryz.func138,Tryz.ntmps138
 go_wp2
 refine bodyPost_ret (v:=.agg #[.int .u64 (sm f g 0 0),.int .u64 (sm f g 0 1),.int .u64 (sm f g 0 2),.int .u64 (sm f g 0 3),.int .u64 (sm f g 0 4),.int .u64 (sm f g 0 5)]) (by simp [results,Tryz.results138,go_sem]) rfl ⟨rfl,below_three _ _ _ _⟩
theorem at6 {w:World} {b:Nat} {f:Nat→Int} (h:At w (some ⟨b,0,none⟩) 6 f) :
  w.cell? ⟨b,0,none⟩=some (.int .u64 (f 0))∧w.cell? ⟨b,1,none⟩=some (.int .u64 (f 1))∧w.cell? ⟨b,2,none⟩=some (.int .u64 (f 2))∧w.cell? ⟨b,3,none⟩=some (.int .u64 (f 3))∧w.cell? ⟨b,4,none⟩=some (.int .u64 (f 4))∧w.cell? ⟨b,5,none⟩=some (.int .u64 (f 5)):=by
 obtain ⟨b',o,e,h⟩:=h (by omega)
 simp only [Option.some.injEq,Addr.mk.injEq] at e
 obtain ⟨rfl,rfl,-⟩:=e
 have k:=fun j hj=>h j hj
 simp only [Nat.zero_add] at k
 exact ⟨k 0 (by omega),k 1 (by omega),k 2 (by omega),k 3 (by omega),k 4 (by omega),k 5 (by omega)⟩
theorem boxA {t:TypeId} {W x:World} (h:Below (W.alloc (.cells #[.int .u64 0,.int .u64 0,.int .u64 0,.int .u64 0,.int .u64 0,.int .u64 0] t)).heap.size (W.alloc (.cells #[.int .u64 0,.int .u64 0,.int .u64 0,.int .u64 0,.int .u64 0,.int .u64 0] t)) x):Below W.heap.size W x∧Mut x W.heap.size 0 6 Z :=
 ⟨Below.up (below_one _ _) (Nat.le_refl _) h,MutK.below (mut_noughts _ _) h (by simp)⟩
theorem boxB {t:TypeId} {W x:World} (h:Below (W.alloc (.cells #[.int .u64 0,.int .u64 0,.int .u64 0,.int .u64 0,.int .u64 0,.int .u64 0] t)).drew.heap.size (W.alloc (.cells #[.int .u64 0,.int .u64 0,.int .u64 0,.int .u64 0,.int .u64 0,.int .u64 0] t)).drew x):Below W.heap.size W x∧Mut x W.heap.size 0 6 Z:=boxA (below_drew h)
end Go.Proofs.YthnfgmhehfombaaGreatDoor.fpn
/- bring, May, Add, Sub, Neg. -/
namespace Go.Proofs.YthnfgmhehfombaaGreatDoor.fpn
open Go.RowKit
attribute [local go_sem ↓] Go.wp_at_zero Go.wp_at_succ
theorem finA {t:TypeId} {W x2:World} (h:Nat→Int) (hb:Below W.heap.size W x2):Below W.heap.size W (x2.alloc (.cells #[.int .u64 (h 0),.int .u64 (h 1),.int .u64 (h 2),.int .u64 (h 3),.int .u64 (h 4),.int .u64 (h 5)] t))∧Mut (x2.alloc (.cells #[.int .u64 (h 0),.int .u64 (h 1),.int .u64 (h 2),.int .u64 (h 3),.int .u64 (h 4),.int .u64 (h 5)] t)) x2.heap.size 0 6 h :=
 ⟨Below.up hb (Nat.le_refl _) (below_one _ _),mut_four _ _ _⟩
theorem finB {b:Nat} {W x2:World} (h:Nat→Int) (hb:Below W.heap.size W x2) (hm:Mut x2 b 0 6 Z) (hle:W.heap.size≤b):Below W.heap.size W ((((((x2.setCell ⟨b,0,none⟩ (.int .u64 (h 0))).setCell ⟨b,1,none⟩ (.int .u64 (h 1))).setCell ⟨b,2,none⟩ (.int .u64 (h 2))).setCell ⟨b,3,none⟩ (.int .u64 (h 3))).setCell ⟨b,4,none⟩ (.int .u64 (h 4))).setCell ⟨b,5,none⟩ (.int .u64 (h 5)))∧Mut ((((((x2.setCell ⟨b,0,none⟩ (.int .u64 (h 0))).setCell ⟨b,1,none⟩ (.int .u64 (h 1))).setCell ⟨b,2,none⟩ (.int .u64 (h 2))).setCell ⟨b,3,none⟩ (.int .u64 (h 3))).setCell ⟨b,4,none⟩ (.int .u64 (h 4))).setCell ⟨b,5,none⟩ (.int .u64 (h 5))) b 0 6 h :=
 ⟨below_set6 hb hle _ _ _ _ _ _,mut_set6 hm h⟩
theorem bring_at (f h k:Nat→Int) (c:Int) (w:World) (K:∀ w,Calls Tryz.prog 135 #[.agg #[.int .u64 (f 0),.int .u64 (f 1),.int .u64 (f 2),.int .u64 (f 3),.int .u64 (f 4),.int .u64 (f 5)],.agg #[.int .u64 (rL 0),.int .u64 (rL 1),.int .u64 (rL 2),.int .u64 (rL 3),.int .u64 (rL 4),.int .u64 (rL 5)]] w fun e w'=>e=.returned (.tuple #[.agg #[.int .u64 (h 0),.int .u64 (h 1),.int .u64 (h 2),.int .u64 (h 3),.int .u64 (h 4),.int .u64 (h 5)],.int .u64 c])∧Below w.heap.size w w') (hc:Hid ((c=0∧k=h)∨(c=1∧k=f))) :
  Calls Tryz.prog 137 #[.agg #[.int .u64 (f 0),.int .u64 (f 1),.int .u64 (f 2),.int .u64 (f 3),.int .u64 (f 4),.int .u64 (f 5)]] w fun e w'=>e=.returned (.agg #[.int .u64 (k 0),.int .u64 (k 1),.int .u64 (k 2),.int .u64 (k 3),.int .u64 (k 4),.int .u64 (k 5)])∧Below w.heap.size w w':=by
 have HK:Hid _:=K
 clear K
 obtain ⟨B1,z1,hF,hR⟩:=pair_all w f 30
 unfold pair at B1 z1 hF hR
 go_enter Tryz.func137,Tryz.ntmps137
 go_wp2_with fail
 generalize (w.alloc (.cells #[.int .u64 (f 0),.int .u64 (f 1),.int .u64 (f 2),.int .u64 (f 3),.int .u64 (f 4),.int .u64 (f 5)] 30)).alloc (.cells #[.int .u64 0,.int .u64 0,.int .u64 0,.int .u64 0,.int .u64 0,.int .u64 0] 30)=W at *
 have HS:Hid (∀ x,Below W.heap.size W x→(x.cell? ⟨w.heap.size,0,none⟩=some (.int .u64 (f 0))∧x.cell? ⟨w.heap.size,1,none⟩=some (.int .u64 (f 1))∧x.cell? ⟨w.heap.size,2,none⟩=some (.int .u64 (f 2))∧x.cell? ⟨w.heap.size,3,none⟩=some (.int .u64 (f 3))∧x.cell? ⟨w.heap.size,4,none⟩=some (.int .u64 (f 4))∧x.cell? ⟨w.heap.size,5,none⟩=some (.int .u64 (f 5)))):=fun x hx=>at6 (hF.at.below hx)
 have B1':Hid _:=B1
 have HR:Hid _:=hR
 have HF:Hid _:=hF
 have Z1:Hid _:=z1
 have lt1:w.heap.size<W.heap.size:=by rw [z1];omega
 have lt0:w.heap.size+1<W.heap.size:=by rw [z1];omega
 clear hF hR B1 z1
 obtain ⟨a0,a1,a2,a3,a4,a5⟩:=HS.out _ (Below.refl _ _)
 go_region_with (first
  | (go_at_call 136;refine Calls.mono (prime_any _) ?_;rintro e x1 ⟨rfl,b1⟩;first | (have BX:Below W.heap.size W x1:=below_drew b1;have lt2:w.heap.size<x1.heap.size:=Nat.lt_of_lt_of_le lt1 BX.size;have BW2:Hid _:=BX;obtain ⟨e0,e1,e2,e3,e4,e5⟩:=HS.out _ BX;clear BX b1) | (have BX:Below W.heap.size W x1:=(boxB b1).1;have lt2:w.heap.size<x1.heap.size:=Nat.lt_of_lt_of_le lt1 BX.size;have MD:Hid (Mut x1 W.heap.size 0 6 Z):=(boxB b1).2;have BW2:Hid _:=BX;obtain ⟨e0,e1,e2,e3,e4,e5⟩:=HS.out _ BX;clear BX b1))
  | (go_at_call 135;refine Calls.mono (HK.out _) ?_;rintro e x2 ⟨rfl,b2⟩;first | (have BX:Below W.heap.size W x2:=Below.up BW2.out (Nat.le_refl _) b2;have MD2:Hid (Mut x2 W.heap.size 0 6 Z):=MutK.below MD.out b2 (cell_lt (MutK.cells6 MD.out).1);have BW3:Hid _:=BX;obtain ⟨m0,m1,m2,m3,m4,m5⟩:=MutK.cells6 MD2.out;obtain ⟨n0,n1,n2,n3,n4,n5⟩:=MutK.free6 MD2.out;clear BX b2) | (have BX:Below W.heap.size W x2:=Below.up BW2.out (Nat.le_refl _) (boxA b2).1;have MD2:Hid (Mut x2 x1.heap.size 0 6 Z):=(boxA b2).2;have BW3:Hid _:=BX;obtain ⟨m0,m1,m2,m3,m4,m5⟩:=MutK.cells6 MD2.out;obtain ⟨n0,n1,n2,n3,n4,n5⟩:=MutK.free6 MD2.out;clear BX b2) | (have BX:Below W.heap.size W x2:=Below.up BW2.out (Nat.le_refl _) b2;have BW3:Hid _:=BX;clear BX b2)))
 all_goals
  first
  | (have q:=finB (b:=W.heap.size) h BW3.out (by with_reducible exact MD2.out) (Nat.le_refl _);generalize (((((x2.setCell ⟨W.heap.size,0,none⟩ (.int .u64 (h 0))).setCell ⟨W.heap.size,1,none⟩ (.int .u64 (h 1))).setCell ⟨W.heap.size,2,none⟩ (.int .u64 (h 2))).setCell ⟨W.heap.size,3,none⟩ (.int .u64 (h 3))).setCell ⟨W.heap.size,4,none⟩ (.int .u64 (h 4))).setCell ⟨W.heap.size,5,none⟩ (.int .u64 (h 5))=V at q ⊢;obtain ⟨bv,mv⟩:=q;obtain ⟨v0,v1,v2,v3,v4,v5⟩:=MutK.cells6 mv;clear mv)
  | (have q:=finB (b:=x1.heap.size) h BW3.out (by with_reducible exact MD2.out) (Below.size BW2.out);generalize (((((x2.setCell ⟨x1.heap.size,0,none⟩ (.int .u64 (h 0))).setCell ⟨x1.heap.size,1,none⟩ (.int .u64 (h 1))).setCell ⟨x1.heap.size,2,none⟩ (.int .u64 (h 2))).setCell ⟨x1.heap.size,3,none⟩ (.int .u64 (h 3))).setCell ⟨x1.heap.size,4,none⟩ (.int .u64 (h 4))).setCell ⟨x1.heap.size,5,none⟩ (.int .u64 (h 5))=V at q ⊢;obtain ⟨bv,mv⟩:=q;obtain ⟨v0,v1,v2,v3,v4,v5⟩:=MutK.cells6 mv;clear mv)
  | (have q:=finA (t:=30) h BW3.out;generalize x2.alloc (.cells #[.int .u64 (h 0),.int .u64 (h 1),.int .u64 (h 2),.int .u64 (h 3),.int .u64 (h 4),.int .u64 (h 5)] 30)=V at q ⊢;obtain ⟨bv,mv⟩:=q;obtain ⟨v0,v1,v2,v3,v4,v5⟩:=MutK.cells6 mv;clear mv)
  have HB:Hid _:=Below.up B1'.out (Nat.le_refl _) bv
  obtain ⟨r0,r1,r2,r3,r4,r5⟩:=MutK.cells6 (MutK.below HF.out bv lt1)
  obtain ⟨y0,y1,y2,y3,y4,y5⟩:=MutK.cells6 (MutK.below HR.out bv lt0)
  obtain ⟨z0,z1,z2,z3,z4,z5⟩:=MutK.free6 (MutK.below HR.out bv lt0)
  clear bv HS HR HF Z1 BW2 BW3 a0 a1 a2 a3 a4 a5 e0 e1 e2 e3 e4 e5 HK
  rcases hc.out with ⟨rfl,rfl⟩ | ⟨rfl,rfl⟩
  ·go_wp2
   refine bodyPost_ret (v:=.agg #[.int .u64 (k 0),.int .u64 (k 1),.int .u64 (k 2),.int .u64 (k 3),.int .u64 (k 4),.int .u64 (k 5)]) (by simp [results,Tryz.results137,go_sem,y0,y1,y2,y3,y4,y5]) rfl ⟨rfl,?_⟩
   exact below_set6 HB.out (by omega) _ _ _ _ _ _
  ·go_wp2
   refine bodyPost_ret (v:=.agg #[.int .u64 (k 0),.int .u64 (k 1),.int .u64 (k 2),.int .u64 (k 3),.int .u64 (k 4),.int .u64 (k 5)]) (by simp [results,Tryz.results137,go_sem,y0,y1,y2,y3,y4,y5]) rfl ⟨rfl,?_⟩
   exact below_set6 HB.out (by omega) _ _ _ _ _ _
end Go.Proofs.YthnfgmhehfombaaGreatDoor.fpn
