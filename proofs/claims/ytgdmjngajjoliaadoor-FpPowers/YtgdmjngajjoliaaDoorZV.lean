/- Great. -/
import Derived.Test.YtgdmjngajjoliaaDoorZT
namespace Go.Proofs.YtgdmjngajjoliaaDoor.fpn
open Go.RowKit
attribute [local go_sem ↓] Go.wp_at_zero Go.wp_at_succ
set_option linter.unusedVariables false

/-- (P - 1) / 2, its limbs. -/
def hL : Nat → Int
  | 0 => 15924587544893707605
  | 1 => 1105070755758604287
  | 2 => 12941209323636816658
  | 3 => 12843041017062132063
  | 4 => 2706051889235351147
  | 5 => 936899308823769933
  | _ => 0
theorem hL_rg : Rg hL 6 := fun i hi => by
  rcases (show i = 0 ∨ i = 1 ∨ i = 2 ∨ i = 3 ∨ i = 4 ∨ i = 5 by omega) with rfl | rfl | rfl | rfl | rfl | rfl <;> rw [B64_eq] <;> decide
theorem hL_val : val hL 6 = RI / 2 := by decide +kernel

/-- What the package's variables hold. -/
def Gl (w : World) : Prop := At w (some ⟨0, 0, none⟩) 6 hL ∧ At w (some ⟨1, 0, none⟩) 6 cL
theorem Gl.stay {w x : World} (h : Gl w) (b : Below w.heap.size w x) : Gl x := ⟨AtK.below h.1 b, AtK.below h.2 b⟩

set_option maxHeartbeats 4000000 in
theorem great_at (f h : Nat → Int) (c : Int) (r : Bool) (w : World) (hg : Gl w) (K : ∀ w, Calls Tryd.prog 40 #[.agg #[.int .u64 (hL 0), .int .u64 (hL 1), .int .u64 (hL 2), .int .u64 (hL 3), .int .u64 (hL 4), .int .u64 (hL 5)], .agg #[.int .u64 (f 0), .int .u64 (f 1), .int .u64 (f 2), .int .u64 (f 3), .int .u64 (f 4), .int .u64 (f 5)]] w fun e w' => e = .returned (.tuple #[.agg #[.int .u64 (h 0), .int .u64 (h 1), .int .u64 (h 2), .int .u64 (h 3), .int .u64 (h 4), .int .u64 (h 5)], .int .u64 c]) ∧ Below w.heap.size w w') (hc : Hid ((c = 0 ∧ r = false) ∨ (c = 1 ∧ r = true))) :
    Calls Tryd.prog 22 #[.agg #[.int .u64 (f 0), .int .u64 (f 1), .int .u64 (f 2), .int .u64 (f 3), .int .u64 (f 4), .int .u64 (f 5)]] w fun e w' => e = .returned (.bool r) ∧ Below w.heap.size w w' := by
  have HK : Hid _ := K
  clear K
  have B1 : Hid _ := below_one w (.cells #[.int .u64 (f 0), .int .u64 (f 1), .int .u64 (f 2), .int .u64 (f 3), .int .u64 (f 4), .int .u64 (f 5)] 24)
  obtain ⟨a0, a1, a2, a3, a4, a5⟩ := at6 hg.1
  have lt0 : 0 < w.heap.size := cell_lt a0
  clear hg
  go_enter Tryd.func22, Tryd.ntmps22
  go_wp2_with fail
  refine Calls.mono (HK.out _) ?_
  rintro e w2 ⟨rfl, b2⟩
  have HB : Hid _ := Below.up (Below.up B1.out (Nat.le_refl _) b2) (Nat.le_refl _) (below_one w2 (.cells #[.int .u64 (h 0), .int .u64 (h 1), .int .u64 (h 2), .int .u64 (h 3), .int .u64 (h 4), .int .u64 (h 5)] 24))
  clear b2 a0 a1 a2 a3 a4 a5 HK lt0
  rcases hc.out with ⟨rfl, rfl⟩ | ⟨rfl, rfl⟩
  · go_wp2
    go_ret
    exact ⟨rfl, HB.out⟩
  · go_wp2
    go_ret
    exact ⟨rfl, HB.out⟩

theorem frGreat_any (f : Nat → Int) (w : World) (hg : Gl w) (rf : Rg f 6) : Calls Tryd.prog 22 #[.agg #[.int .u64 (f 0), .int .u64 (f 1), .int .u64 (f 2), .int .u64 (f 3), .int .u64 (f 4), .int .u64 (f 5)]] w fun e w' => e = .returned (.bool (decide (RI / 2 < val f 6))) ∧ Below w.heap.size w w' := by
  have v1 := val_df hL_rg rf
  have d1 := val_bd (df_rg hL f 6)
  have d0 := val_bd rf
  have d2 := val_bd hL_rg
  have hb := bw_bd hL f 6
  have hp : 0 < RI := RI_pos
  rw [hL_val] at v1 d2
  refine great_at f (df hL f) (bw hL f 6) _ w hg (fun w => less_any hL f w hL_rg rf) ?_
  show _ ∨ _
  rcases (show bw hL f 6 = 0 ∨ bw hL f 6 = 1 by omega) with e | e
  · left; rw [e] at v1; exact ⟨e, decide_eq_false (by omega)⟩
  · right; rw [e] at v1; exact ⟨e, decide_eq_true (by omega)⟩

end Go.Proofs.YtgdmjngajjoliaaDoor.fpn
