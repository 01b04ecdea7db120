/- The statement LimbLine: its walk. -/
import Derived.Test.YtnijhifingdmlaaWJ
namespace Go.Proofs.Ytnijhifingdmlaa
open Go.RowKit
set_option linter.unusedVariables false

theorem line_long (pa : Option Addr) (na ca : Nat) (fa : Nat → Int) (pb : Option Addr) (nb cb : Nat) (fb : Nat → Int) (pc : Option Addr) (nc cc : Nat) (fc : Nat → Int) (w : World) (ha : At w pa na fa) (ra : Rg fa na) (l1a : na ≤ ca) (l2a : ca ≤ 9223372036854775807) (hb : At w pb nb fb) (rb : Rg fb nb) (l1b : nb ≤ cb) (l2b : cb ≤ 9223372036854775807) (hc : At w pc nc fc) (rc : Rg fc nc) (l1c : nc ≤ cc) (l2c : cc ≤ 9223372036854775807) (hl : 8 < na ∨ (na ≤ 8 ∧ 8 < nb) ∨ (na ≤ 8 ∧ nb ≤ 8 ∧ 8 < nc)) :
    Calls Try.prog 8 #[.slice pa na ca, .slice pb nb cb, .slice pc nc cc] w fun e w' => e = .returned (.bool true) ∧ Below w.heap.size w w' := by
  go_enter Try.func8, Try.ntmps8
  rcases hl with hl | ⟨hl1, hl2⟩ | ⟨hl1, hl2, hl3⟩
  · have BW0 : Below w.heap.size w w := Below.refl _ _
    have K : Hid _ := begun_any w
    go_wp2_with fail
    refine Calls.mono K.out ?_
    rintro e W1 ⟨rfl, SB⟩
    clear K
    have BW1 := Below.up BW0 (Nat.le_refl _) SB
    replace ha := ha.below SB
    replace hb := hb.below SB
    replace hc := hc.below SB
    clear SB BW0
    go_wp2
    go_ret
    exact ⟨rfl, BW1⟩
  · have BW0 : Below w.heap.size w w := Below.refl _ _
    have K : Hid _ := begun_any w
    go_wp2_with fail
    refine Calls.mono K.out ?_
    rintro e W1 ⟨rfl, SB⟩
    clear K
    have BW1 := Below.up BW0 (Nat.le_refl _) SB
    replace ha := ha.below SB
    replace hb := hb.below SB
    replace hc := hc.below SB
    clear SB BW0
    go_wp2
    go_ret
    exact ⟨rfl, BW1⟩
  · have BW0 : Below w.heap.size w w := Below.refl _ _
    have K : Hid _ := begun_any w
    go_wp2_with fail
    refine Calls.mono K.out ?_
    rintro e W1 ⟨rfl, SB⟩
    clear K
    have BW1 := Below.up BW0 (Nat.le_refl _) SB
    replace ha := ha.below SB
    replace hb := hb.below SB
    replace hc := hc.below SB
    clear SB BW0
    go_wp2
    go_ret
    exact ⟨rfl, BW1⟩

theorem line_lt_lt (pa : Option Addr) (na ca : Nat) (fa : Nat → Int) (pb : Option Addr) (nb cb : Nat) (fb : Nat → Int) (pc : Option Addr) (nc cc : Nat) (fc : Nat → Int) (w : World) (ha : At w pa na fa) (ra : Rg fa na) (l1a : na ≤ ca) (l2a : ca ≤ 9223372036854775807) (hb : At w pb nb fb) (rb : Rg fb nb) (l1b : nb ≤ cb) (l2b : cb ≤ 9223372036854775807) (hc : At w pc nc fc) (rc : Rg fc nc) (l1c : nc ≤ cc) (l2c : cc ≤ 9223372036854775807) (ka : na ≤ 8) (kb : nb ≤ 8) (kc : nc ≤ 8) (hlt : val fa na < val fb nb) (hbc : val fb nb < val fc nc) :
    Calls Try.prog 8 #[.slice pa na ca, .slice pb nb cb, .slice pc nc cc] w fun e w' => e = .returned (.bool true) ∧ Below w.heap.size w w' := by
  go_enter Try.func8, Try.ntmps8
  have BW0 : Below w.heap.size w w := Below.refl _ _
  have K : Hid _ := begun_any w
  go_wp2_with fail
  refine Calls.mono K.out ?_
  rintro e W1 ⟨rfl, SB⟩
  clear K
  have BW1 := Below.up BW0 (Nat.le_refl _) SB
  replace ha := ha.below SB
  replace hb := hb.below SB
  replace hc := hc.below SB
  clear SB BW0
  have HL : Hid _ := hlt
  have HC : Hid _ := hbc
  clear hlt hbc
  have H := compare_any pa pb na nb ca cb fa fb W1 l1a l2a l1b l2b ha hb ra rb
  rw [ord_lt HL.out] at H
  have K : Hid _ := H
  clear H
  go_wp2_with fail
  refine Calls.mono K.out ?_
  rintro e W2 ⟨rfl, q, hq⟩
  have SB : Below W1.heap.size W1 W2 := by rw [hq]; exact below_draws (Below.refl _ _) q
  clear hq K
  have BW2 := Below.up BW1 (Nat.le_refl _) SB
  replace ha := ha.below SB
  replace hb := hb.below SB
  replace hc := hc.below SB
  clear SB BW1
  have K : Hid _ := sub_less pa pb na nb ca cb fa fb W2 l1a l2a l1b l2b ha hb ra rb HL.out
  go_wp2_with fail
  refine Calls.mono K.out ?_
  rintro e W3 ⟨rfl, q, hq⟩
  have SB : Below W2.heap.size W2 W3 := by rw [hq]; exact below_draws (Below.refl _ _) q
  clear hq K
  have BW3 := Below.up BW2 (Nat.le_refl _) SB
  replace ha := ha.below SB
  replace hb := hb.below SB
  replace hc := hc.below SB
  clear SB BW2
  have H := compare_any pb pa nb na cb ca fb fa W3 l1b l2b l1a l2a hb ha rb ra
  rw [ord_gt HL.out] at H
  have K : Hid _ := H
  clear H
  go_wp2_with fail
  refine Calls.mono K.out ?_
  rintro e W4 ⟨rfl, q, hq⟩
  have SB : Below W3.heap.size W3 W4 := by rw [hq]; exact below_draws (Below.refl _ _) q
  clear hq K
  have BW4 := Below.up BW3 (Nat.le_refl _) SB
  replace ha := ha.below SB
  replace hb := hb.below SB
  replace hc := hc.below SB
  clear SB BW3
  have H := compare_any pb pc nb nc cb cc fb fc W4 l1b l2b l1c l2c hb hc rb rc
  rw [ord_lt HC.out] at H
  have K : Hid _ := H
  clear H
  go_wp2_with fail
  refine Calls.mono K.out ?_
  rintro e W5 ⟨rfl, q, hq⟩
  have SB : Below W4.heap.size W4 W5 := by rw [hq]; exact below_draws (Below.refl _ _) q
  clear hq K
  have BW5 := Below.up BW4 (Nat.le_refl _) SB
  replace ha := ha.below SB
  replace hb := hb.below SB
  replace hc := hc.below SB
  clear SB BW4
  have H := compare_any pa pc na nc ca cc fa fc W5 l1a l2a l1c l2c ha hc ra rc
  rw [ord_lt (Int.lt_trans HL.out HC.out)] at H
  have K : Hid _ := H
  clear H
  go_wp2_with fail
  refine Calls.mono K.out ?_
  rintro e W6 ⟨rfl, q, hq⟩
  have SB : Below W5.heap.size W5 W6 := by rw [hq]; exact below_draws (Below.refl _ _) q
  clear hq K
  have BW6 := Below.up BW5 (Nat.le_refl _) SB
  replace ha := ha.below SB
  replace hb := hb.below SB
  replace hc := hc.below SB
  clear SB BW5
  have K : Hid _ := add_any pa pc na nc ca cc fa fc W6 l1a l2a l1c l2c ha hc ra rc (by omega) (by omega)
  go_wp2_with fail
  refine Calls.mono K.out ?_
  rintro e W7 ⟨v, rfl, SB, bs, os, ns, cs, fs, rfl, los, ls, l1s, lNs, ms, rs, nms, vs⟩
  clear K
  have HVs : Hid _ := vs
  clear vs los
  have l2s : cs ≤ 9223372036854775807 := by omega
  have hs := ms.at
  clear ms ls
  have BW7 := Below.up BW6 (Nat.le_refl _) SB
  replace ha := ha.below SB
  replace hb := hb.below SB
  replace hc := hc.below SB
  clear SB BW6
  have K : Hid _ := add_any pb pc nb nc cb cc fb fc W7 l1b l2b l1c l2c hb hc rb rc (by omega) (by omega)
  go_wp2_with fail
  refine Calls.mono K.out ?_
  rintro e W8 ⟨v, rfl, SB, bt, ot, nt, ct, ft, rfl, lot, lt, l1t, lNt, mt, rt, nmt, vt⟩
  clear K
  have HVt : Hid _ := vt
  clear vt lot
  have l2t : ct ≤ 9223372036854775807 := by omega
  have ht := mt.at
  clear mt lt
  have BW8 := Below.up BW7 (Nat.le_refl _) SB
  replace ha := ha.below SB
  replace hb := hb.below SB
  replace hc := hc.below SB
  replace hs := hs.below SB
  clear SB BW7
  have H := compare_any (some ⟨bs, os, none⟩) (some ⟨bt, ot, none⟩) ns nt cs ct fs ft W8 l1s l2s l1t l2t hs ht rs rt
  rw [HVs.out, HVt.out, ord_lt (by have := HL.out; omega)] at H
  have K : Hid _ := H
  clear H
  go_wp2_with fail
  refine Calls.mono K.out ?_
  rintro e W9 ⟨rfl, q, hq⟩
  have SB : Below W8.heap.size W8 W9 := by rw [hq]; exact below_draws (Below.refl _ _) q
  clear hq K
  have BW9 := Below.up BW8 (Nat.le_refl _) SB
  replace ha := ha.below SB
  replace hb := hb.below SB
  replace hc := hc.below SB
  replace hs := hs.below SB
  replace ht := ht.below SB
  clear SB BW8
  have H := compare_any pa pa na na ca ca fa fa W9 l1a l2a l1a l2a ha ha ra ra
  rw [ord_eq rfl] at H
  have K : Hid _ := H
  clear H
  go_wp2_with fail
  refine Calls.mono K.out ?_
  rintro e W10 ⟨rfl, q, hq⟩
  have SB : Below W9.heap.size W9 W10 := by rw [hq]; exact below_draws (Below.refl _ _) q
  clear hq K
  have BW10 := Below.up BW9 (Nat.le_refl _) SB
  replace ha := ha.below SB
  replace hb := hb.below SB
  replace hc := hc.below SB
  replace hs := hs.below SB
  replace ht := ht.below SB
  clear SB BW9
  go_wp2
  go_ret
  exact ⟨rfl, BW10⟩

theorem line_lt_eq (pa : Option Addr) (na ca : Nat) (fa : Nat → Int) (pb : Option Addr) (nb cb : Nat) (fb : Nat → Int) (pc : Option Addr) (nc cc : Nat) (fc : Nat → Int) (w : World) (ha : At w pa na fa) (ra : Rg fa na) (l1a : na ≤ ca) (l2a : ca ≤ 9223372036854775807) (hb : At w pb nb fb) (rb : Rg fb nb) (l1b : nb ≤ cb) (l2b : cb ≤ 9223372036854775807) (hc : At w pc nc fc) (rc : Rg fc nc) (l1c : nc ≤ cc) (l2c : cc ≤ 9223372036854775807) (ka : na ≤ 8) (kb : nb ≤ 8) (kc : nc ≤ 8) (hlt : val fa na < val fb nb) (hbc : val fb nb = val fc nc) :
    Calls Try.prog 8 #[.slice pa na ca, .slice pb nb cb, .slice pc nc cc] w fun e w' => e = .returned (.bool true) ∧ Below w.heap.size w w' := by
  go_enter Try.func8, Try.ntmps8
  have BW0 : Below w.heap.size w w := Below.refl _ _
  have K : Hid _ := begun_any w
  go_wp2_with fail
  refine Calls.mono K.out ?_
  rintro e W1 ⟨rfl, SB⟩
  clear K
  have BW1 := Below.up BW0 (Nat.le_refl _) SB
  replace ha := ha.below SB
  replace hb := hb.below SB
  replace hc := hc.below SB
  clear SB BW0
  have HL : Hid _ := hlt
  have HC : Hid _ := hbc
  clear hlt hbc
  have H := compare_any pa pb na nb ca cb fa fb W1 l1a l2a l1b l2b ha hb ra rb
  rw [ord_lt HL.out] at H
  have K : Hid _ := H
  clear H
  go_wp2_with fail
  refine Calls.mono K.out ?_
  rintro e W2 ⟨rfl, q, hq⟩
  have SB : Below W1.heap.size W1 W2 := by rw [hq]; exact below_draws (Below.refl _ _) q
  clear hq K
  have BW2 := Below.up BW1 (Nat.le_refl _) SB
  replace ha := ha.below SB
  replace hb := hb.below SB
  replace hc := hc.below SB
  clear SB BW1
  have K : Hid _ := sub_less pa pb na nb ca cb fa fb W2 l1a l2a l1b l2b ha hb ra rb HL.out
  go_wp2_with fail
  refine Calls.mono K.out ?_
  rintro e W3 ⟨rfl, q, hq⟩
  have SB : Below W2.heap.size W2 W3 := by rw [hq]; exact below_draws (Below.refl _ _) q
  clear hq K
  have BW3 := Below.up BW2 (Nat.le_refl _) SB
  replace ha := ha.below SB
  replace hb := hb.below SB
  replace hc := hc.below SB
  clear SB BW2
  have H := compare_any pb pa nb na cb ca fb fa W3 l1b l2b l1a l2a hb ha rb ra
  rw [ord_gt HL.out] at H
  have K : Hid _ := H
  clear H
  go_wp2_with fail
  refine Calls.mono K.out ?_
  rintro e W4 ⟨rfl, q, hq⟩
  have SB : Below W3.heap.size W3 W4 := by rw [hq]; exact below_draws (Below.refl _ _) q
  clear hq K
  have BW4 := Below.up BW3 (Nat.le_refl _) SB
  replace ha := ha.below SB
  replace hb := hb.below SB
  replace hc := hc.below SB
  clear SB BW3
  have H := compare_any pb pc nb nc cb cc fb fc W4 l1b l2b l1c l2c hb hc rb rc
  rw [ord_eq HC.out] at H
  have K : Hid _ := H
  clear H
  go_wp2_with fail
  refine Calls.mono K.out ?_
  rintro e W5 ⟨rfl, q, hq⟩
  have SB : Below W4.heap.size W4 W5 := by rw [hq]; exact below_draws (Below.refl _ _) q
  clear hq K
  have BW5 := Below.up BW4 (Nat.le_refl _) SB
  replace ha := ha.below SB
  replace hb := hb.below SB
  replace hc := hc.below SB
  clear SB BW4
  have K : Hid _ := add_any pa pc na nc ca cc fa fc W5 l1a l2a l1c l2c ha hc ra rc (by omega) (by omega)
  go_wp2_with fail
  refine Calls.mono K.out ?_
  rintro e W6 ⟨v, rfl, SB, bs, os, ns, cs, fs, rfl, los, ls, l1s, lNs, ms, rs, nms, vs⟩
  clear K
  have HVs : Hid _ := vs
  clear vs los
  have l2s : cs ≤ 9223372036854775807 := by omega
  have hs := ms.at
  clear ms ls
  have BW6 := Below.up BW5 (Nat.le_refl _) SB
  replace ha := ha.below SB
  replace hb := hb.below SB
  replace hc := hc.below SB
  clear SB BW5
  have K : Hid _ := add_any pb pc nb nc cb cc fb fc W6 l1b l2b l1c l2c hb hc rb rc (by omega) (by omega)
  go_wp2_with fail
  refine Calls.mono K.out ?_
  rintro e W7 ⟨v, rfl, SB, bt, ot, nt, ct, ft, rfl, lot, lt, l1t, lNt, mt, rt, nmt, vt⟩
  clear K
  have HVt : Hid _ := vt
  clear vt lot
  have l2t : ct ≤ 9223372036854775807 := by omega
  have ht := mt.at
  clear mt lt
  have BW7 := Below.up BW6 (Nat.le_refl _) SB
  replace ha := ha.below SB
  replace hb := hb.below SB
  replace hc := hc.below SB
  replace hs := hs.below SB
  clear SB BW6
  have H := compare_any (some ⟨bs, os, none⟩) (some ⟨bt, ot, none⟩) ns nt cs ct fs ft W7 l1s l2s l1t l2t hs ht rs rt
  rw [HVs.out, HVt.out, ord_lt (by have := HL.out; omega)] at H
  have K : Hid _ := H
  clear H
  go_wp2_with fail
  refine Calls.mono K.out ?_
  rintro e W8 ⟨rfl, q, hq⟩
  have SB : Below W7.heap.size W7 W8 := by rw [hq]; exact below_draws (Below.refl _ _) q
  clear hq K
  have BW8 := Below.up BW7 (Nat.le_refl _) SB
  replace ha := ha.below SB
  replace hb := hb.below SB
  replace hc := hc.below SB
  replace hs := hs.below SB
  replace ht := ht.below SB
  clear SB BW7
  have H := compare_any pa pa na na ca ca fa fa W8 l1a l2a l1a l2a ha ha ra ra
  rw [ord_eq rfl] at H
  have K : Hid _ := H
  clear H
  go_wp2_with fail
  refine Calls.mono K.out ?_
  rintro e W9 ⟨rfl, q, hq⟩
  have SB : Below W8.heap.size W8 W9 := by rw [hq]; exact below_draws (Below.refl _ _) q
  clear hq K
  have BW9 := Below.up BW8 (Nat.le_refl _) SB
  replace ha := ha.below SB
  replace hb := hb.below SB
  replace hc := hc.below SB
  replace hs := hs.below SB
  replace ht := ht.below SB
  clear SB BW8
  go_wp2
  go_ret
  exact ⟨rfl, BW9⟩

theorem line_lt_gt (pa : Option Addr) (na ca : Nat) (fa : Nat → Int) (pb : Option Addr) (nb cb : Nat) (fb : Nat → Int) (pc : Option Addr) (nc cc : Nat) (fc : Nat → Int) (w : World) (ha : At w pa na fa) (ra : Rg fa na) (l1a : na ≤ ca) (l2a : ca ≤ 9223372036854775807) (hb : At w pb nb fb) (rb : Rg fb nb) (l1b : nb ≤ cb) (l2b : cb ≤ 9223372036854775807) (hc : At w pc nc fc) (rc : Rg fc nc) (l1c : nc ≤ cc) (l2c : cc ≤ 9223372036854775807) (ka : na ≤ 8) (kb : nb ≤ 8) (kc : nc ≤ 8) (hlt : val fa na < val fb nb) (hbc : val fc nc < val fb nb) :
    Calls Try.prog 8 #[.slice pa na ca, .slice pb nb cb, .slice pc nc cc] w fun e w' => e = .returned (.bool true) ∧ Below w.heap.size w w' := by
  go_enter Try.func8, Try.ntmps8
  have BW0 : Below w.heap.size w w := Below.refl _ _
  have K : Hid _ := begun_any w
  go_wp2_with fail
  refine Calls.mono K.out ?_
  rintro e W1 ⟨rfl, SB⟩
  clear K
  have BW1 := Below.up BW0 (Nat.le_refl _) SB
  replace ha := ha.below SB
  replace hb := hb.below SB
  replace hc := hc.below SB
  clear SB BW0
  have HL : Hid _ := hlt
  have HC : Hid _ := hbc
  clear hlt hbc
  have H := compare_any pa pb na nb ca cb fa fb W1 l1a l2a l1b l2b ha hb ra rb
  rw [ord_lt HL.out] at H
  have K : Hid _ := H
  clear H
  go_wp2_with fail
  refine Calls.mono K.out ?_
  rintro e W2 ⟨rfl, q, hq⟩
  have SB : Below W1.heap.size W1 W2 := by rw [hq]; exact below_draws (Below.refl _ _) q
  clear hq K
  have BW2 := Below.up BW1 (Nat.le_refl _) SB
  replace ha := ha.below SB
  replace hb := hb.below SB
  replace hc := hc.below SB
  clear SB BW1
  have K : Hid _ := sub_less pa pb na nb ca cb fa fb W2 l1a l2a l1b l2b ha hb ra rb HL.out
  go_wp2_with fail
  refine Calls.mono K.out ?_
  rintro e W3 ⟨rfl, q, hq⟩
  have SB : Below W2.heap.size W2 W3 := by rw [hq]; exact below_draws (Below.refl _ _) q
  clear hq K
  have BW3 := Below.up BW2 (Nat.le_refl _) SB
  replace ha := ha.below SB
  replace hb := hb.below SB
  replace hc := hc.below SB
  clear SB BW2
  have H := compare_any pb pa nb na cb ca fb fa W3 l1b l2b l1a l2a hb ha rb ra
  rw [ord_gt HL.out] at H
  have K : Hid _ := H
  clear H
  go_wp2_with fail
  refine Calls.mono K.out ?_
  rintro e W4 ⟨rfl, q, hq⟩
  have SB : Below W3.heap.size W3 W4 := by rw [hq]; exact below_draws (Below.refl _ _) q
  clear hq K
  have BW4 := Below.up BW3 (Nat.le_refl _) SB
  replace ha := ha.below SB
  replace hb := hb.below SB
  replace hc := hc.below SB
  clear SB BW3
  have H := compare_any pb pc nb nc cb cc fb fc W4 l1b l2b l1c l2c hb hc rb rc
  rw [ord_gt HC.out] at H
  have K : Hid _ := H
  clear H
  go_wp2_with fail
  refine Calls.mono K.out ?_
  rintro e W5 ⟨rfl, q, hq⟩
  have SB : Below W4.heap.size W4 W5 := by rw [hq]; exact below_draws (Below.refl _ _) q
  clear hq K
  have BW5 := Below.up BW4 (Nat.le_refl _) SB
  replace ha := ha.below SB
  replace hb := hb.below SB
  replace hc := hc.below SB
  clear SB BW4
  have K : Hid _ := add_any pa pc na nc ca cc fa fc W5 l1a l2a l1c l2c ha hc ra rc (by omega) (by omega)
  go_wp2_with fail
  refine Calls.mono K.out ?_
  rintro e W6 ⟨v, rfl, SB, bs, os, ns, cs, fs, rfl, los, ls, l1s, lNs, ms, rs, nms, vs⟩
  clear K
  have HVs : Hid _ := vs
  clear vs los
  have l2s : cs ≤ 9223372036854775807 := by omega
  have hs := ms.at
  clear ms ls
  have BW6 := Below.up BW5 (Nat.le_refl _) SB
  replace ha := ha.below SB
  replace hb := hb.below SB
  replace hc := hc.below SB
  clear SB BW5
  have K : Hid _ := add_any pb pc nb nc cb cc fb fc W6 l1b l2b l1c l2c hb hc rb rc (by omega) (by omega)
  go_wp2_with fail
  refine Calls.mono K.out ?_
  rintro e W7 ⟨v, rfl, SB, bt, ot, nt, ct, ft, rfl, lot, lt, l1t, lNt, mt, rt, nmt, vt⟩
  clear K
  have HVt : Hid _ := vt
  clear vt lot
  have l2t : ct ≤ 9223372036854775807 := by omega
  have ht := mt.at
  clear mt lt
  have BW7 := Below.up BW6 (Nat.le_refl _) SB
  replace ha := ha.below SB
  replace hb := hb.below SB
  replace hc := hc.below SB
  replace hs := hs.below SB
  clear SB BW6
  have H := compare_any (some ⟨bs, os, none⟩) (some ⟨bt, ot, none⟩) ns nt cs ct fs ft W7 l1s l2s l1t l2t hs ht rs rt
  rw [HVs.out, HVt.out, ord_lt (by have := HL.out; omega)] at H
  have K : Hid _ := H
  clear H
  go_wp2_with fail
  refine Calls.mono K.out ?_
  rintro e W8 ⟨rfl, q, hq⟩
  have SB : Below W7.heap.size W7 W8 := by rw [hq]; exact below_draws (Below.refl _ _) q
  clear hq K
  have BW8 := Below.up BW7 (Nat.le_refl _) SB
  replace ha := ha.below SB
  replace hb := hb.below SB
  replace hc := hc.below SB
  replace hs := hs.below SB
  replace ht := ht.below SB
  clear SB BW7
  have H := compare_any pa pa na na ca ca fa fa W8 l1a l2a l1a l2a ha ha ra ra
  rw [ord_eq rfl] at H
  have K : Hid _ := H
  clear H
  go_wp2_with fail
  refine Calls.mono K.out ?_
  rintro e W9 ⟨rfl, q, hq⟩
  have SB : Below W8.heap.size W8 W9 := by rw [hq]; exact below_draws (Below.refl _ _) q
  clear hq K
  have BW9 := Below.up BW8 (Nat.le_refl _) SB
  replace ha := ha.below SB
  replace hb := hb.below SB
  replace hc := hc.below SB
  replace hs := hs.below SB
  replace ht := ht.below SB
  clear SB BW8
  go_wp2
  go_ret
  exact ⟨rfl, BW9⟩

theorem line_eq (pa : Option Addr) (na ca : Nat) (fa : Nat → Int) (pb : Option Addr) (nb cb : Nat) (fb : Nat → Int) (pc : Option Addr) (nc cc : Nat) (fc : Nat → Int) (w : World) (ha : At w pa na fa) (ra : Rg fa na) (l1a : na ≤ ca) (l2a : ca ≤ 9223372036854775807) (hb : At w pb nb fb) (rb : Rg fb nb) (l1b : nb ≤ cb) (l2b : cb ≤ 9223372036854775807) (hc : At w pc nc fc) (rc : Rg fc nc) (l1c : nc ≤ cc) (l2c : cc ≤ 9223372036854775807) (ka : na ≤ 8) (kb : nb ≤ 8) (kc : nc ≤ 8) (hge : val fa na = val fb nb) :
    Calls Try.prog 8 #[.slice pa na ca, .slice pb nb cb, .slice pc nc cc] w fun e w' => e = .returned (.bool true) ∧ Below w.heap.size w w' := by
  go_enter Try.func8, Try.ntmps8
  have BW0 : Below w.heap.size w w := Below.refl _ _
  have K : Hid _ := begun_any w
  go_wp2_with fail
  refine Calls.mono K.out ?_
  rintro e W1 ⟨rfl, SB⟩
  clear K
  have BW1 := Below.up BW0 (Nat.le_refl _) SB
  replace ha := ha.below SB
  replace hb := hb.below SB
  replace hc := hc.below SB
  clear SB BW0
  have HL : Hid _ := hge
  clear hge
  have H := compare_any pa pb na nb ca cb fa fb W1 l1a l2a l1b l2b ha hb ra rb
  rw [ord_eq HL.out] at H
  have K : Hid _ := H
  clear H
  go_wp2_with fail
  refine Calls.mono K.out ?_
  rintro e W2 ⟨rfl, q, hq⟩
  have SB : Below W1.heap.size W1 W2 := by rw [hq]; exact below_draws (Below.refl _ _) q
  clear hq K
  have BW2 := Below.up BW1 (Nat.le_refl _) SB
  replace ha := ha.below SB
  replace hb := hb.below SB
  replace hc := hc.below SB
  clear SB BW1
  have K : Hid _ := sub_any pa pb na nb ca cb fa fb W2 l1a l2a l1b l2b ha hb ra rb (by have := HL.out; omega) (by omega) (by omega)
  go_wp2_with fail
  refine Calls.mono K.out ?_
  rintro e W3 ⟨v, rfl, SB, bd, od, nd, cd, fd, rfl, lod, ld, l1d, lNd, md, rd, nmd, vd⟩
  clear K
  have HVd : Hid _ := vd
  clear vd lod
  have l2d : cd ≤ 9223372036854775807 := by omega
  have hd := md.at
  clear md ld
  have BW3 := Below.up BW2 (Nat.le_refl _) SB
  replace ha := ha.below SB
  replace hb := hb.below SB
  replace hc := hc.below SB
  clear SB BW2
  have H := compare_any pb pa nb na cb ca fb fa W3 l1b l2b l1a l2a hb ha rb ra
  rw [ord_eq HL.out.symm] at H
  have K : Hid _ := H
  clear H
  go_wp2_with fail
  refine Calls.mono K.out ?_
  rintro e W4 ⟨rfl, q, hq⟩
  have SB : Below W3.heap.size W3 W4 := by rw [hq]; exact below_draws (Below.refl _ _) q
  clear hq K
  have BW4 := Below.up BW3 (Nat.le_refl _) SB
  replace ha := ha.below SB
  replace hb := hb.below SB
  replace hc := hc.below SB
  replace hd := hd.below SB
  clear SB BW3
  have K : Hid _ := add_any pa pc na nc ca cc fa fc W4 l1a l2a l1c l2c ha hc ra rc (by omega) (by omega)
  go_wp2_with fail
  refine Calls.mono K.out ?_
  rintro e W5 ⟨v, rfl, SB, bs, os, ns, cs, fs, rfl, los, ls, l1s, lNs, ms, rs, nms, vs⟩
  clear K
  have HVs : Hid _ := vs
  clear vs los
  have l2s : cs ≤ 9223372036854775807 := by omega
  have hs := ms.at
  clear ms ls
  have BW5 := Below.up BW4 (Nat.le_refl _) SB
  replace ha := ha.below SB
  replace hb := hb.below SB
  replace hc := hc.below SB
  replace hd := hd.below SB
  clear SB BW4
  have K : Hid _ := add_any pb pc nb nc cb cc fb fc W5 l1b l2b l1c l2c hb hc rb rc (by omega) (by omega)
  go_wp2_with fail
  refine Calls.mono K.out ?_
  rintro e W6 ⟨v, rfl, SB, bt, ot, nt, ct, ft, rfl, lot, lt, l1t, lNt, mt, rt, nmt, vt⟩
  clear K
  have HVt : Hid _ := vt
  clear vt lot
  have l2t : ct ≤ 9223372036854775807 := by omega
  have ht := mt.at
  clear mt lt
  have BW6 := Below.up BW5 (Nat.le_refl _) SB
  replace ha := ha.below SB
  replace hb := hb.below SB
  replace hc := hc.below SB
  replace hd := hd.below SB
  replace hs := hs.below SB
  clear SB BW5
  have H := compare_any (some ⟨bs, os, none⟩) (some ⟨bt, ot, none⟩) ns nt cs ct fs ft W6 l1s l2s l1t l2t hs ht rs rt
  rw [HVs.out, HVt.out, ord_eq (by have := HL.out; omega)] at H
  have K : Hid _ := H
  clear H
  go_wp2_with fail
  refine Calls.mono K.out ?_
  rintro e W7 ⟨rfl, q, hq⟩
  have SB : Below W6.heap.size W6 W7 := by rw [hq]; exact below_draws (Below.refl _ _) q
  clear hq K
  have BW7 := Below.up BW6 (Nat.le_refl _) SB
  replace ha := ha.below SB
  replace hb := hb.below SB
  replace hc := hc.below SB
  replace hd := hd.below SB
  replace hs := hs.below SB
  replace ht := ht.below SB
  clear SB BW6
  have H := compare_any pa pa na na ca ca fa fa W7 l1a l2a l1a l2a ha ha ra ra
  rw [ord_eq rfl] at H
  have K : Hid _ := H
  clear H
  go_wp2_with fail
  refine Calls.mono K.out ?_
  rintro e W8 ⟨rfl, q, hq⟩
  have SB : Below W7.heap.size W7 W8 := by rw [hq]; exact below_draws (Below.refl _ _) q
  clear hq K
  have BW8 := Below.up BW7 (Nat.le_refl _) SB
  replace ha := ha.below SB
  replace hb := hb.below SB
  replace hc := hc.below SB
  replace hd := hd.below SB
  replace hs := hs.below SB
  replace ht := ht.below SB
  clear SB BW7
  go_wp2
  go_ret
  exact ⟨rfl, BW8⟩

theorem line_gt (pa : Option Addr) (na ca : Nat) (fa : Nat → Int) (pb : Option Addr) (nb cb : Nat) (fb : Nat → Int) (pc : Option Addr) (nc cc : Nat) (fc : Nat → Int) (w : World) (ha : At w pa na fa) (ra : Rg fa na) (l1a : na ≤ ca) (l2a : ca ≤ 9223372036854775807) (hb : At w pb nb fb) (rb : Rg fb nb) (l1b : nb ≤ cb) (l2b : cb ≤ 9223372036854775807) (hc : At w pc nc fc) (rc : Rg fc nc) (l1c : nc ≤ cc) (l2c : cc ≤ 9223372036854775807) (ka : na ≤ 8) (kb : nb ≤ 8) (kc : nc ≤ 8) (hge : val fb nb < val fa na) :
    Calls Try.prog 8 #[.slice pa na ca, .slice pb nb cb, .slice pc nc cc] w fun e w' => e = .returned (.bool true) ∧ Below w.heap.size w w' := by
  go_enter Try.func8, Try.ntmps8
  have BW0 : Below w.heap.size w w := Below.refl _ _
  have K : Hid _ := begun_any w
  go_wp2_with fail
  refine Calls.mono K.out ?_
  rintro e W1 ⟨rfl, SB⟩
  clear K
  have BW1 := Below.up BW0 (Nat.le_refl _) SB
  replace ha := ha.below SB
  replace hb := hb.below SB
  replace hc := hc.below SB
  clear SB BW0
  have HL : Hid _ := hge
  clear hge
  have H := compare_any pa pb na nb ca cb fa fb W1 l1a l2a l1b l2b ha hb ra rb
  rw [ord_gt HL.out] at H
  have K : Hid _ := H
  clear H
  go_wp2_with fail
  refine Calls.mono K.out ?_
  rintro e W2 ⟨rfl, q, hq⟩
  have SB : Below W1.heap.size W1 W2 := by rw [hq]; exact below_draws (Below.refl _ _) q
  clear hq K
  have BW2 := Below.up BW1 (Nat.le_refl _) SB
  replace ha := ha.below SB
  replace hb := hb.below SB
  replace hc := hc.below SB
  clear SB BW1
  have K : Hid _ := sub_any pa pb na nb ca cb fa fb W2 l1a l2a l1b l2b ha hb ra rb (by have := HL.out; omega) (by omega) (by omega)
  go_wp2_with fail
  refine Calls.mono K.out ?_
  rintro e W3 ⟨v, rfl, SB, bd, od, nd, cd, fd, rfl, lod, ld, l1d, lNd, md, rd, nmd, vd⟩
  clear K
  have HVd : Hid _ := vd
  clear vd lod
  have l2d : cd ≤ 9223372036854775807 := by omega
  have hd := md.at
  clear md ld
  have BW3 := Below.up BW2 (Nat.le_refl _) SB
  replace ha := ha.below SB
  replace hb := hb.below SB
  replace hc := hc.below SB
  clear SB BW2
  have H := compare_any pb pa nb na cb ca fb fa W3 l1b l2b l1a l2a hb ha rb ra
  rw [ord_lt HL.out] at H
  have K : Hid _ := H
  clear H
  go_wp2_with fail
  refine Calls.mono K.out ?_
  rintro e W4 ⟨rfl, q, hq⟩
  have SB : Below W3.heap.size W3 W4 := by rw [hq]; exact below_draws (Below.refl _ _) q
  clear hq K
  have BW4 := Below.up BW3 (Nat.le_refl _) SB
  replace ha := ha.below SB
  replace hb := hb.below SB
  replace hc := hc.below SB
  replace hd := hd.below SB
  clear SB BW3
  have K : Hid _ := add_any pa pc na nc ca cc fa fc W4 l1a l2a l1c l2c ha hc ra rc (by omega) (by omega)
  go_wp2_with fail
  refine Calls.mono K.out ?_
  rintro e W5 ⟨v, rfl, SB, bs, os, ns, cs, fs, rfl, los, ls, l1s, lNs, ms, rs, nms, vs⟩
  clear K
  have HVs : Hid _ := vs
  clear vs los
  have l2s : cs ≤ 9223372036854775807 := by omega
  have hs := ms.at
  clear ms ls
  have BW5 := Below.up BW4 (Nat.le_refl _) SB
  replace ha := ha.below SB
  replace hb := hb.below SB
  replace hc := hc.below SB
  replace hd := hd.below SB
  clear SB BW4
  have K : Hid _ := add_any pb pc nb nc cb cc fb fc W5 l1b l2b l1c l2c hb hc rb rc (by omega) (by omega)
  go_wp2_with fail
  refine Calls.mono K.out ?_
  rintro e W6 ⟨v, rfl, SB, bt, ot, nt, ct, ft, rfl, lot, lt, l1t, lNt, mt, rt, nmt, vt⟩
  clear K
  have HVt : Hid _ := vt
  clear vt lot
  have l2t : ct ≤ 9223372036854775807 := by omega
  have ht := mt.at
  clear mt lt
  have BW6 := Below.up BW5 (Nat.le_refl _) SB
  replace ha := ha.below SB
  replace hb := hb.below SB
  replace hc := hc.below SB
  replace hd := hd.below SB
  replace hs := hs.below SB
  clear SB BW5
  have H := compare_any (some ⟨bs, os, none⟩) (some ⟨bt, ot, none⟩) ns nt cs ct fs ft W6 l1s l2s l1t l2t hs ht rs rt
  rw [HVs.out, HVt.out, ord_gt (by have := HL.out; omega)] at H
  have K : Hid _ := H
  clear H
  go_wp2_with fail
  refine Calls.mono K.out ?_
  rintro e W7 ⟨rfl, q, hq⟩
  have SB : Below W6.heap.size W6 W7 := by rw [hq]; exact below_draws (Below.refl _ _) q
  clear hq K
  have BW7 := Below.up BW6 (Nat.le_refl _) SB
  replace ha := ha.below SB
  replace hb := hb.below SB
  replace hc := hc.below SB
  replace hd := hd.below SB
  replace hs := hs.below SB
  replace ht := ht.below SB
  clear SB BW6
  have H := compare_any pa pa na na ca ca fa fa W7 l1a l2a l1a l2a ha ha ra ra
  rw [ord_eq rfl] at H
  have K : Hid _ := H
  clear H
  go_wp2_with fail
  refine Calls.mono K.out ?_
  rintro e W8 ⟨rfl, q, hq⟩
  have SB : Below W7.heap.size W7 W8 := by rw [hq]; exact below_draws (Below.refl _ _) q
  clear hq K
  have BW8 := Below.up BW7 (Nat.le_refl _) SB
  replace ha := ha.below SB
  replace hb := hb.below SB
  replace hc := hc.below SB
  replace hd := hd.below SB
  replace hs := hs.below SB
  replace ht := ht.below SB
  clear SB BW7
  go_wp2
  go_ret
  exact ⟨rfl, BW8⟩

theorem line_any (pa : Option Addr) (na ca : Nat) (fa : Nat → Int) (pb : Option Addr) (nb cb : Nat) (fb : Nat → Int) (pc : Option Addr) (nc cc : Nat) (fc : Nat → Int) (w : World) (ha : At w pa na fa) (ra : Rg fa na) (l1a : na ≤ ca) (l2a : ca ≤ 9223372036854775807) (hb : At w pb nb fb) (rb : Rg fb nb) (l1b : nb ≤ cb) (l2b : cb ≤ 9223372036854775807) (hc : At w pc nc fc) (rc : Rg fc nc) (l1c : nc ≤ cc) (l2c : cc ≤ 9223372036854775807) :
    Calls Try.prog 8 #[.slice pa na ca, .slice pb nb cb, .slice pc nc cc] w fun e w' => e = .returned (.bool true) ∧ Below w.heap.size w w' := by
  by_cases hl : 8 < na ∨ (na ≤ 8 ∧ 8 < nb) ∨ (na ≤ 8 ∧ nb ≤ 8 ∧ 8 < nc)
  · exact line_long pa na ca fa pb nb cb fb pc nc cc fc w ha ra l1a l2a hb rb l1b l2b hc rc l1c l2c hl
  · have ka : na ≤ 8 := by omega
    have kb : nb ≤ 8 := by omega
    have kc : nc ≤ 8 := by omega
    rcases Int.lt_trichotomy (val fa na) (val fb nb) with h | h | h
    · rcases Int.lt_trichotomy (val fb nb) (val fc nc) with k | k | k
      · exact line_lt_lt pa na ca fa pb nb cb fb pc nc cc fc w ha ra l1a l2a hb rb l1b l2b hc rc l1c l2c ka kb kc h k
      · exact line_lt_eq pa na ca fa pb nb cb fb pc nc cc fc w ha ra l1a l2a hb rb l1b l2b hc rc l1c l2c ka kb kc h k
      · exact line_lt_gt pa na ca fa pb nb cb fb pc nc cc fc w ha ra l1a l2a hb rb l1b l2b hc rc l1c l2c ka kb kc h k
    · exact line_eq pa na ca fa pb nb cb fb pc nc cc fc w ha ra l1a l2a hb rb l1b l2b hc rc l1c l2c ka kb kc h
    · exact line_gt pa na ca fa pb nb cb fb pc nc cc fc w ha ra l1a l2a hb rb l1b l2b hc rc l1c l2c ka kb kc h
end Go.Proofs.Ytnijhifingdmlaa
