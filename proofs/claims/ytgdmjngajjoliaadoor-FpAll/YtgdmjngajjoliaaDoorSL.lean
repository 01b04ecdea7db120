/- What the statements' own rest and sameLimbs answer. -/
import Derived.Test.YtgdmjngajjoliaaDoorSC
import Derived.Test.YtgdmjngajjoliaaDoorWS
namespace Go.Proofs.YtgdmjngajjoliaaDoor.fpn
open Go.RowKit
attribute [local go_sem ↓] Go.wp_at_zero Go.wp_at_succ
set_option linter.unusedVariables false

theorem lawRest_any (p : Option Addr) (n c : Nat) (f : Nat → Int) (w : World) (l1 : n ≤ c) (l2 : c ≤ 9223372036854775807) (ha : At w p n f) (rf : Rg f n) (hn : n ≤ 1000) : Calls Tryd.prog 19 #[.slice p n c] w fun e w' => ∃ h : Nat → Int, e = .returned (.agg #[.int .u64 (h 0), .int .u64 (h 1), .int .u64 (h 2), .int .u64 (h 3), .int .u64 (h 4), .int .u64 (h 5)]) ∧ Rg h 6 ∧ val h 6 = val f n % RI ∧ Below w.heap.size w w' := by
  have hR : Mut (w.alloc (.cells #[.int .u64 0, .int .u64 0, .int .u64 0, .int .u64 0, .int .u64 0, .int .u64 0] 24)) w.heap.size 0 6 Z := mut_noughts w _
  have b1 := below_one w (.cells #[.int .u64 0, .int .u64 0, .int .u64 0, .int .u64 0, .int .u64 0, .int .u64 0] 24)
  have z1 := World.size_alloc w (.cells #[.int .u64 0, .int .u64 0, .int .u64 0, .int .u64 0, .int .u64 0, .int .u64 0] 24)
  have ha1 := ha.below b1
  go_enter Tryd.func19, Tryd.ntmps19
  go_wp2_with fail
  generalize w.alloc (.cells #[.int .u64 0, .int .u64 0, .int .u64 0, .int .u64 0, .int .u64 0, .int .u64 0] 24) = W at *
  refine Calls.mono (refR_any _) ?_
  rintro e w2 ⟨rfl, b2, -, m2⟩
  have RS : Hid _ := refRest_any p (some ⟨W.heap.size, 0, none⟩) n 6 c 6 f rL w2 l1 l2 (by omega) (by omega) (ha1.below b2) m2.at rf rL_rg (by omega) (by omega) (by rw [rL_val]; decide)
  rw [rL_val] at RS
  have hR2 := hR.below b2 (by rw [z1]; omega)
  have b3 := Below.up b1 (Nat.le_refl _) b2
  have HL : Hid (w.heap.size + 1 ≤ w2.heap.size) := by have := b2.size; show _ ≤ _; omega
  clear hR b1 b2 ha ha1 m2 z1
  go_wp2_with fail
  refine Calls.mono RS.out ?_
  rintro e w3 ⟨v3, rfl, b4, p3, n3, c3, h3, rfl, q1, q2, q3, a3, r3, -, v3⟩
  have hR3 := hR2.below b4 (by have := HL.out; omega)
  have b5 := Below.up b3 (Nat.le_refl _) b4
  have HL3 : Hid (w.heap.size + 1 ≤ w3.heap.size) := by have := b4.size; have := HL.out; show _ ≤ _; omega
  have m4 := mut_noughts w3 24
  have a4 := below_one w3 (.cells #[.int .u64 0, .int .u64 0, .int .u64 0, .int .u64 0, .int .u64 0, .int .u64 0] 24)
  have hR4 := hR3.below a4 (by have := HL3.out; omega)
  have at4' := a3.below a4
  have B6 : Hid _ := Below.up b5 (Nat.le_refl _) a4
  have RL : Hid _ := lm_rg r3 6
  have VL : Hid _ := (val_lm h3 n3 6 q3).trans v3
  clear RS hR2 hR3 b3 b4 b5 a3 r3 v3 HL
  go_wp2_with (refine wpList_copy_lim .u64 (by rfl) (.tmp 12) (.tmp 13) 30 30 (by rfl) 22 Tryd.underlying30 size64 w3.heap.size 0 6 6 p3 n3 c3 Z h3 (by rfl) (by rfl) m4 at4' q3 ?_; intro w4 hu4 hm4; have k4 : Mut w4 w3.heap.size 0 6 (lm h3 n3) := hm4; obtain ⟨x0, x1, x2, x3, x4, x5⟩ := k4.cells6; obtain ⟨y0, y1, y2, y3, y4, y5⟩ := (hR4.upd hu4 (by have := HL3.out; omega)).cells6; obtain ⟨z0, z1, z2, z3, z4, z5⟩ := (hR4.upd hu4 (by have := HL3.out; omega)).free6; have HU : Hid _ := hu4; clear hm4 k4 m4 hR4 hu4 at4' a4)
  refine bodyPost_ret (v := .agg #[.int .u64 ((lm h3 n3) 0), .int .u64 ((lm h3 n3) 1), .int .u64 ((lm h3 n3) 2), .int .u64 ((lm h3 n3) 3), .int .u64 ((lm h3 n3) 4), .int .u64 ((lm h3 n3) 5)]) (by simp [results, Tryd.results19, go_sem, y0, y1, y2, y3, y4, y5]) rfl ⟨lm h3 n3, rfl, RL.out, VL.out, ?_⟩
  exact ((((((Below.trans B6.out (Upd.below HU.out (by have := HL3.out; omega))).setCell (Nat.le_refl _) _).setCell (Nat.le_refl _) _).setCell (Nat.le_refl _) _).setCell (Nat.le_refl _) _).setCell (Nat.le_refl _) _).setCell (Nat.le_refl _) _

end Go.Proofs.YtgdmjngajjoliaaDoor.fpn
