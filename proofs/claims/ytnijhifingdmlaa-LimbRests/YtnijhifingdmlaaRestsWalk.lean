/- The statement LimbRests: its walk. -/
import Derived.Test.YtnijhifingdmlaaWN
namespace Go.Proofs.Ytnijhifingdmlaa
open Go.RowKit
set_option linter.unusedVariables false

theorem same_eq (pa pb : Option Addr) (na nb ca cb : Nat) (f g : Nat → Int) (w : World) (hn : na ≤ 17592186044416) (ha : At w pa na f) (hb : At w pb nb g) (e : na = nb) (e2 : ∀ i, i < na → f i = g i) :
    Calls Try.prog 16 #[.slice pa na ca, .slice pb nb cb] w fun e w' => e = .returned (.bool true) ∧ ∃ q, w' = w.drewN q := by
  subst e
  exact same_true pa pb na ca cb f g w hn ha hb e2

theorem rests_long (pa : Option Addr) (na ca : Nat) (fa : Nat → Int) (pm : Option Addr) (nm cm : Nat) (fm : Nat → Int) (w : World) (ha : At w pa na fa) (ra : Rg fa na) (l1a : na ≤ ca) (l2a : ca ≤ 9223372036854775807) (hm : At w pm nm fm) (rm : Rg fm nm) (l1m : nm ≤ cm) (l2m : cm ≤ 9223372036854775807) (hl : 24 < na ∨ (na ≤ 24 ∧ 12 < nm)) :
    Calls Try.prog 4 #[.slice pa na ca, .slice pm nm cm] w fun e w' => e = .returned (.bool true) ∧ Below w.heap.size w w' := by
  go_enter Try.func4, Try.ntmps4
  rcases hl with hl | ⟨hl1, hl2⟩
  · have BW0 : Below w.heap.size w w := Below.refl _ _
    have K : Hid _ := begun_any w
    go_wp2_with fail
    refine Calls.mono K.out ?_
    rintro e W1 ⟨rfl, SB⟩
    clear K
    have BW1 := Below.up BW0 (Nat.le_refl _) SB
    replace ha := ha.below SB
    replace hm := hm.below SB
    clear SB BW0
    go_wp2
    go_ret
    exact ⟨rfl, BW1⟩
  · have BW0 : Below w.heap.size w w := Below.refl _ _
    have K : Hid _ := begun_any w
    go_wp2_with fail
    refine Calls.mono K.out ?_
    rintro e W1 ⟨rfl, SB⟩
    clear K
    have BW1 := Below.up BW0 (Nat.le_refl _) SB
    replace ha := ha.below SB
    replace hm := hm.below SB
    clear SB BW0
    go_wp2
    go_ret
    exact ⟨rfl, BW1⟩

theorem rests_zero (pa : Option Addr) (na ca : Nat) (fa : Nat → Int) (pm : Option Addr) (nm cm : Nat) (fm : Nat → Int) (w : World) (ha : At w pa na fa) (ra : Rg fa na) (l1a : na ≤ ca) (l2a : ca ≤ 9223372036854775807) (hm : At w pm nm fm) (rm : Rg fm nm) (l1m : nm ≤ cm) (l2m : cm ≤ 9223372036854775807) (ka : na ≤ 24) (kb : nm ≤ 12) (hz : val fm nm = 0) :
    Calls Try.prog 4 #[.slice pa na ca, .slice pm nm cm] w fun e w' => e = .returned (.bool true) ∧ Below w.heap.size w w' := by
  go_enter Try.func4, Try.ntmps4
  have BW0 : Below w.heap.size w w := Below.refl _ _
  have K : Hid _ := begun_any w
  go_wp2_with fail
  refine Calls.mono K.out ?_
  rintro e W1 ⟨rfl, SB⟩
  clear K
  have BW1 := Below.up BW0 (Nat.le_refl _) SB
  replace ha := ha.below SB
  replace hm := hm.below SB
  clear SB BW0
  have HZ : Hid _ := hz
  clear hz
  have K : Hid _ := rest_zero pa pm na nm ca cm fa fm W1 l1a l2a l1m l2m ha hm rm HZ.out
  go_wp2_with fail
  refine Calls.mono K.out ?_
  rintro e W2 ⟨rfl, hq⟩
  have SB : Below W1.heap.size W1 W2 := by rw [hq]; exact Below.refl _ _
  clear hq K
  have BW2 := Below.up BW1 (Nat.le_refl _) SB
  replace ha := ha.below SB
  replace hm := hm.below SB
  clear SB BW1
  have K : Hid _ := refRest_zero pa pm na nm ca cm fa fm W2 l1m l2m hm rm (by omega) HZ.out
  go_wp2_with fail
  refine Calls.mono K.out ?_
  rintro e W3 ⟨rfl, SB⟩
  clear K
  have BW3 := Below.up BW2 (Nat.le_refl _) SB
  replace ha := ha.below SB
  replace hm := hm.below SB
  clear SB BW2
  have K : Hid _ := same_true none none 0 0 0 Z Z W3 (by decide) AtK.nil AtK.nil (fun _ _ => rfl)
  go_wp2_with fail
  refine Calls.mono K.out ?_
  rintro e W4 ⟨rfl, q, hq⟩
  have SB : Below W3.heap.size W3 W4 := by rw [hq]; exact below_draws (Below.refl _ _) q
  clear hq K
  have BW4 := Below.up BW3 (Nat.le_refl _) SB
  replace ha := ha.below SB
  replace hm := hm.below SB
  clear SB BW3
  go_wp2
  go_ret
  exact ⟨rfl, BW4⟩

theorem rests_rest (pa : Option Addr) (na ca : Nat) (fa : Nat → Int) (pm : Option Addr) (nm cm : Nat) (fm : Nat → Int) (w : World) (ha : At w pa na fa) (ra : Rg fa na) (l1a : na ≤ ca) (l2a : ca ≤ 9223372036854775807) (hm : At w pm nm fm) (rm : Rg fm nm) (l1m : nm ≤ cm) (l2m : cm ≤ 9223372036854775807) (ka : na ≤ 24) (kb : nm ≤ 12) (hz : val fm nm ≠ 0) :
    Calls Try.prog 4 #[.slice pa na ca, .slice pm nm cm] w fun e w' => e = .returned (.bool true) ∧ Below w.heap.size w w' := by
  go_enter Try.func4, Try.ntmps4
  have BW0 : Below w.heap.size w w := Below.refl _ _
  have K : Hid _ := begun_any w
  go_wp2_with fail
  refine Calls.mono K.out ?_
  rintro e W1 ⟨rfl, SB⟩
  clear K
  have BW1 := Below.up BW0 (Nat.le_refl _) SB
  replace ha := ha.below SB
  replace hm := hm.below SB
  clear SB BW0
  have HZ : Hid _ := hz
  clear hz
  have K : Hid _ := rest_any pa pm na nm ca cm fa fm W1 l1a l2a l1m l2m ha hm ra rm (by omega) (by omega) (HZ.out)
  go_wp2_with fail
  refine Calls.mono K.out ?_
  rintro e W2 ⟨v, rfl, SB, br, or, nr, cr, fr, rfl, lor, lr, l1r, lNr, mr, rr, nmr, vr⟩
  clear K
  have HVr : Hid _ := vr
  clear vr lor
  have l2r : cr ≤ 9223372036854775807 := by omega
  have hr := mr.at
  clear mr lr
  have BW2 := Below.up BW1 (Nat.le_refl _) SB
  replace ha := ha.below SB
  replace hm := hm.below SB
  clear SB BW1
  have K : Hid _ := refRest_any pa pm na nm ca cm fa fm W2 l1a l2a l1m l2m ha hm ra rm (by omega) (by omega) HZ.out
  go_wp2_with fail
  refine Calls.mono K.out ?_
  rintro e W3 ⟨v, rfl, SB, ps, ns, cs, fs, rfl, l1s, l2s, lNs, hs, rs, nms, vs⟩
  clear K
  have HVs : Hid _ := vs
  clear vs
  have BW3 := Below.up BW2 (Nat.le_refl _) SB
  replace ha := ha.below SB
  replace hm := hm.below SB
  replace hr := hr.below SB
  clear SB BW2
  have U := uniq rr rs nmr nms (by rw [HVr.out, HVs.out])
  have H := same_eq (some ⟨br, or, none⟩) ps nr ns cr cs fr fs W3 (by omega) hr hs U.1 U.2
  clear U
  have K : Hid _ := H
  clear H
  go_wp2_with fail
  refine Calls.mono K.out ?_
  rintro e W4 ⟨rfl, q, hq⟩
  have SB : Below W3.heap.size W3 W4 := by rw [hq]; exact below_draws (Below.refl _ _) q
  clear hq K
  have BW4 := Below.up BW3 (Nat.le_refl _) SB
  replace ha := ha.below SB
  replace hm := hm.below SB
  replace hr := hr.below SB
  replace hs := hs.below SB
  clear SB BW3
  go_wp2
  go_ret
  exact ⟨rfl, BW4⟩

theorem rests_any (pa : Option Addr) (na ca : Nat) (fa : Nat → Int) (pm : Option Addr) (nm cm : Nat) (fm : Nat → Int) (w : World) (ha : At w pa na fa) (ra : Rg fa na) (l1a : na ≤ ca) (l2a : ca ≤ 9223372036854775807) (hm : At w pm nm fm) (rm : Rg fm nm) (l1m : nm ≤ cm) (l2m : cm ≤ 9223372036854775807) :
    Calls Try.prog 4 #[.slice pa na ca, .slice pm nm cm] w fun e w' => e = .returned (.bool true) ∧ Below w.heap.size w w' := by
  by_cases hl : 24 < na ∨ (na ≤ 24 ∧ 12 < nm)
  · exact rests_long pa na ca fa pm nm cm fm w ha ra l1a l2a hm rm l1m l2m hl
  · by_cases hz : val fm nm = 0
    · exact rests_zero pa na ca fa pm nm cm fm w ha ra l1a l2a hm rm l1m l2m (by omega) (by omega) hz
    · exact rests_rest pa na ca fa pm nm cm fm w ha ra l1a l2a hm rm l1m l2m (by omega) (by omega) hz
end Go.Proofs.Ytnijhifingdmlaa
