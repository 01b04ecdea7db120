/- What the document's PutR and TakeR answer; bytes as a number. -/
import Derived.Test.YtgdmjngajjoliaaDoorRB
import Derived.Test.YtgdmjngajjoliaaDoorBX
namespace Go.Proofs.YtgdmjngajjoliaaDoor.fpn
open Go.RowKit
attribute [local go_sem ↓] Go.wp_at_zero Go.wp_at_succ
set_option linter.unusedVariables false

theorem putR_any (f : Nat → Int) (w : World) (rf : Rg f 6) :
    Calls Tryd.prog 36 #[frv f] w fun e w' => ∃ b, e = .returned (.slice (some ⟨b, 0, none⟩) 48 48) ∧ Below w.heap.size w w' ∧ MutK .u8 w' b 0 48 (fun j => byt f 6 (48 - 1 - j)) := by
  have hA := mut_four w f 24
  have B1 := below_one w (.cells #[.int .u64 (f 0), .int .u64 (f 1), .int .u64 (f 2), .int .u64 (f 3), .int .u64 (f 4), .int .u64 (f 5)] 24)
  have sz1 : sz f 6 ≤ 48 := by have := sz_le8 rf; have := tl_le f 6; omega
  unfold frv
  go_enter Tryd.func36, Tryd.ntmps36
  go_wp2_with fail
  generalize w.alloc (.cells #[.int .u64 (f 0), .int .u64 (f 1), .int .u64 (f 2), .int .u64 (f 3), .int .u64 (f 4), .int .u64 (f 5)] 24) = W at *
  refine Calls.mono (refPut_any (some ⟨w.heap.size, 0, none⟩) 6 6 48 f W (by omega) (by omega) hA.at rf (by omega) (by omega) sz1) ?_
  rintro e w2 ⟨b, rfl, b2, m2⟩
  have HM : Hid _ := m2
  have HB : Hid _ := Below.up B1 (Nat.le_refl _) b2
  clear m2 b2 hA B1 sz1
  go_wp2
  go_ret
  exact ⟨b, rfl, HB.out, HM.out⟩

theorem takeR_short (p : Option Addr) (n cap : Nat) (w : World) (hn : n < 48) :
    Calls Tryd.prog 34 #[.slice p n cap] w fun e w' => e = .returned (.tuple #[.agg #[.int .u64 0, .int .u64 0, .int .u64 0, .int .u64 0, .int .u64 0, .int .u64 0], .int .i64 2]) ∧ Below w.heap.size w w' := by
  go_enter Tryd.func34, Tryd.ntmps34
  go_wp2
  refine bodyPost_ret (v := .tuple #[.agg #[.int .u64 0, .int .u64 0, .int .u64 0, .int .u64 0, .int .u64 0, .int .u64 0], .int .i64 2]) (by simp [results, Tryd.results34, go_sem]) rfl ⟨rfl, below_one _ _⟩
theorem takeR_long (p : Option Addr) (n cap : Nat) (w : World) (hn : 48 < n) :
    Calls Tryd.prog 34 #[.slice p n cap] w fun e w' => e = .returned (.tuple #[.agg #[.int .u64 0, .int .u64 0, .int .u64 0, .int .u64 0, .int .u64 0, .int .u64 0], .int .i64 8]) ∧ Below w.heap.size w w' := by
  have h0 : ¬ (n : Int) < 48 := by omega
  go_enter Tryd.func34, Tryd.ntmps34
  go_wp2
  refine bodyPost_ret (v := .tuple #[.agg #[.int .u64 0, .int .u64 0, .int .u64 0, .int .u64 0, .int .u64 0, .int .u64 0], .int .i64 8]) (by simp [results, Tryd.results34, go_sem]) rfl ⟨rfl, below_one _ _⟩

theorem takeR_any (p : Option Addr) (cap : Nat) (g : Nat → Int) (w : World) (hc : AtK .u8 w p 48 g) (hg : ∀ j, j < 48 → 0 ≤ g j ∧ g j < 256) :
    Calls Tryd.prog 34 #[.slice p 48 cap] w fun e w' => ((val (pl g 48 48) 6 < RI ∧ ∃ v, e = .returned (.tuple #[v, .int .i64 0]) ∧ IsFr v (val (pl g 48 48) 6)) ∨ (RI ≤ val (pl g 48 48) 6 ∧ e = .returned (.tuple #[.agg #[.int .u64 0, .int .u64 0, .int .u64 0, .int .u64 0, .int .u64 0, .int .u64 0], .int .i64 4]))) ∧ Below w.heap.size w w' := by
  have hR : Mut (w.alloc (.cells #[.int .u64 0, .int .u64 0, .int .u64 0, .int .u64 0, .int .u64 0, .int .u64 0] 24)) w.heap.size 0 6 Z := mut_noughts w _
  have b1 := below_one w (.cells #[.int .u64 0, .int .u64 0, .int .u64 0, .int .u64 0, .int .u64 0, .int .u64 0] 24)
  have z1 := World.size_alloc w (.cells #[.int .u64 0, .int .u64 0, .int .u64 0, .int .u64 0, .int .u64 0, .int .u64 0] 24)
  have hc1 := hc.below b1
  go_enter Tryd.func34, Tryd.ntmps34
  go_wp2_with fail
  generalize w.alloc (.cells #[.int .u64 0, .int .u64 0, .int .u64 0, .int .u64 0, .int .u64 0, .int .u64 0] 24) = W at *
  refine Calls.mono (refTake_any p 48 cap g W hc1 hg (by omega)) ?_
  rintro e w2 ⟨v, rfl, b2, p2, n2, c2, h, rfl, l1, l2, l3, a2, r2, -, v2⟩
  have F := refFr_any p2 n2 c2 h w2 l3 a2
  have rk := lm_rg r2 6
  have vk : val (lm h n2) 6 = val (pl g 48 48) 6 := (val_lm h n2 6 l3).trans v2
  generalize lm h n2 = k at *
  unfold frv at F
  have HF : Hid _ := F
  have b3 := Below.up b1 (Nat.le_refl _) b2
  have hR2 := hR.below b2 (by rw [z1]; omega)
  have HL : Hid (w.heap.size + 1 ≤ w2.heap.size) := by have := b2.size; show _ ≤ _; omega
  have VK : Hid _ := vk
  clear F hc hc1 hg v2 vk r2 a2 l1 l2 l3 hR b1 b2 z1
  go_wp2_with fail
  refine Calls.mono HF.out ?_
  rintro e w3 ⟨rfl, b4⟩
  have b5 := Below.up b3 (Nat.le_refl _) b4
  have hR3 := hR2.below b4 (by have := HL.out; omega)
  have HL3 : Hid (w.heap.size + 1 ≤ w3.heap.size) := by have := b4.size; have := HL.out; show _ ≤ _; omega
  clear hR2 HL b3 b4 HF
  have K : ∀ W : World, Calls Tryd.prog 10 #[.agg #[.int .u64 (k 0), .int .u64 (k 1), .int .u64 (k 2), .int .u64 (k 3), .int .u64 (k 4), .int .u64 (k 5)]] W fun e w' => e = .returned (.bool (decide (val (pl g 48 48) 6 < RI))) ∧ Below W.heap.size W w' := fun W => by
    rw [← VK.out]; exact mayR_any k W rk
  have hX := mut_four w3 k 24
  have c3 := below_one w3 (.cells #[.int .u64 (k 0), .int .u64 (k 1), .int .u64 (k 2), .int .u64 (k 3), .int .u64 (k 4), .int .u64 (k 5)] 24)
  have z3 := World.size_alloc w3 (.cells #[.int .u64 (k 0), .int .u64 (k 1), .int .u64 (k 2), .int .u64 (k 3), .int .u64 (k 4), .int .u64 (k 5)] 24)
  by_cases hlt : val (pl g 48 48) 6 < RI
  · rw [decide_eq_true hlt] at K
    have HK : Hid _ := K
    have HLT : Hid _ := hlt
    clear K hlt
    go_wp2_with fail
    generalize w3.alloc (.cells #[.int .u64 (k 0), .int .u64 (k 1), .int .u64 (k 2), .int .u64 (k 3), .int .u64 (k 4), .int .u64 (k 5)] 24) = W3 at *
    refine Calls.mono (HK.out W3) ?_
    rintro e w4 ⟨rfl, b6⟩
    obtain ⟨x0, x1, x2, x3, x4, x5⟩ := (hX.below b6 (by rw [z3]; omega)).cells6
    have b7 := Below.up c3 (Nat.le_refl _) b6
    have hR4 := hR3.below b7 (by have := HL3.out; omega)
    obtain ⟨y0, y1, y2, y3, y4, y5⟩ := hR4.cells6
    obtain ⟨z0, z1, z2, z4⟩ := hR4.free6
    have HB : Hid _ := Below.up b5 (Nat.le_refl _) b7
    have RK : Hid _ := rk
    clear hX hR3 hR4 b5 b6 b7 c3 z3 rk
    go_wp2
    refine bodyPost_ret (v := .tuple #[.agg #[.int .u64 (k 0), .int .u64 (k 1), .int .u64 (k 2), .int .u64 (k 3), .int .u64 (k 4), .int .u64 (k 5)], .int .i64 0]) (by simp [results, Tryd.results34, go_sem, y0, y1, y2, y3, y4, y5]) rfl ⟨Or.inl ⟨HLT.out, _, rfl, k, rfl, RK.out, VK.out⟩, ?_⟩
    exact below_set6 HB.out (by omega) _ _ _ _ _ _
  · rw [decide_eq_false hlt] at K
    have HK : Hid _ := K
    have HLT : Hid (RI ≤ val (pl g 48 48) 6) := by show _ ≤ _; omega
    clear K hlt
    go_wp2_with fail
    generalize w3.alloc (.cells #[.int .u64 (k 0), .int .u64 (k 1), .int .u64 (k 2), .int .u64 (k 3), .int .u64 (k 4), .int .u64 (k 5)] 24) = W3 at *
    refine Calls.mono (HK.out W3) ?_
    rintro e w4 ⟨rfl, b6⟩
    obtain ⟨x0, x1, x2, x3, x4, x5⟩ := (hX.below b6 (by rw [z3]; omega)).cells6
    have b7 := Below.up c3 (Nat.le_refl _) b6
    have hR4 := hR3.below b7 (by have := HL3.out; omega)
    obtain ⟨y0, y1, y2, y3, y4, y5⟩ := hR4.cells6
    obtain ⟨z0, z1, z2, z4⟩ := hR4.free6
    have HB : Hid _ := Below.up b5 (Nat.le_refl _) b7
    have RK : Hid _ := rk
    clear hX hR3 hR4 b5 b6 b7 c3 z3 rk
    go_wp2
    refine bodyPost_ret (v := .tuple #[.agg #[.int .u64 0, .int .u64 0, .int .u64 0, .int .u64 0, .int .u64 0, .int .u64 0], .int .i64 4]) (by simp [results, Tryd.results34, go_sem, y0, y1, y2, y3, y4, y5]) rfl ⟨Or.inr ⟨HLT.out, rfl⟩, ?_⟩
    exact below_set6 HB.out (by omega) _ _ _ _ _ _

end Go.Proofs.YtgdmjngajjoliaaDoor.fpn
