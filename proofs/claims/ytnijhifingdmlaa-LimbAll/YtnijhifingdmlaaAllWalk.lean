/- The statement LimbAll: its walk. -/
import Derived.Test.YtnijhifingdmlaaWS
import Derived.Test.YtnijhifingdmlaaWM
namespace Go.Proofs.Ytnijhifingdmlaa
open Go.RowKit
set_option linter.unusedVariables false

theorem same_eq (pa pb : Option Addr) (na nb ca cb : Nat) (f g : Nat → Int) (w : World) (hn : na ≤ 17592186044416) (ha : At w pa na f) (hb : At w pb nb g) (e : na = nb) (e2 : ∀ i, i < na → f i = g i) :
    Calls Try.prog 16 #[.slice pa na ca, .slice pb nb cb] w fun e w' => e = .returned (.bool true) ∧ ∃ q, w' = w.drewN q := by
  subst e
  exact same_true pa pb na ca cb f g w hn ha hb e2

/-- A slice that was there lies apart from a block that is new. -/
theorem AtK.old {k : IntKind} {w : World} {p : Option Addr} {n : Nat} {f : Nat → Int} (h : AtK k w p n f) {g : Nat} (hg : w.heap.size ≤ g) : 0 < n → ∀ b' o', p = some ⟨b', o', none⟩ → b' ≠ g := fun h0 => by
  obtain ⟨b, off, e, hl, _⟩ := h.lt h0
  intro b' o' e'
  rw [e] at e'
  injection e' with e'
  injection e' with e1
  omega
theorem at_copy {w : World} {B e : Nat} {v : Value} {n : Nat} {f : Nat → Int} (h : Own w B e .u64 v (0 + n) (cat f 0 f)) : Own w B e .u64 v n f := by
  rw [Nat.zero_add] at h
  exact h.congr fun j _ => by rw [cat_hi (Nat.zero_le _), Nat.sub_zero]

theorem all_long (pa : Option Addr) (na ca : Nat) (fa : Nat → Int) (pb : Option Addr) (nb cb : Nat) (fb : Nat → Int) (w : World) (ha : At w pa na fa) (ra : Rg fa na) (l1a : na ≤ ca) (l2a : ca ≤ 9223372036854775807) (hb : At w pb nb fb) (rb : Rg fb nb) (l1b : nb ≤ cb) (l2b : cb ≤ 9223372036854775807) (hl : 12 < na ∨ (na ≤ 12 ∧ 12 < nb)) :
    Calls Try.prog 3 #[.slice pa na ca, .slice pb nb cb] w fun e w' => e = .returned (.bool true) ∧ Below w.heap.size w w' := by
  obtain ⟨i0, hi0, hz0, hz1, hz2⟩ := info_parts info64
  have q8 : i0.bytes ≤ 8 := by omega
  clear hz2
  go_enter Try.func3, Try.ntmps3
  rcases hl with hl | ⟨hl1, hl2⟩
  · have BW0 : Below w.heap.size w w := Below.refl _ _
    have K : Hid _ := begun_any w
    go_wp2_with fail
    refine Calls.mono K.out ?_
    rintro e W1 ⟨rfl, SB⟩
    clear K
    have BW1 := Below.up BW0 (Nat.le_refl _) SB
    replace ha := ha.below SB
    replace hb := hb.below SB
    clear SB BW0
    go_wp2
    go_ret
    exact ⟨rfl, BW1⟩
  · have BW0 : Below w.heap.size w w := Below.refl _ _
    have K : Hid _ := begun_any w
    go_wp2_with fail
    refine Calls.mono K.out ?_
    rintro e W1 ⟨rfl, SB⟩
    clear K
    have BW1 := Below.up BW0 (Nat.le_refl _) SB
    replace ha := ha.below SB
    replace hb := hb.below SB
    clear SB BW0
    go_wp2
    go_ret
    exact ⟨rfl, BW1⟩

set_option maxHeartbeats 2000000 in
theorem all_less (pa : Option Addr) (na ca : Nat) (fa : Nat → Int) (pb : Option Addr) (nb cb : Nat) (fb : Nat → Int) (w : World) (ha : At w pa na fa) (ra : Rg fa na) (l1a : na ≤ ca) (l2a : ca ≤ 9223372036854775807) (hb : At w pb nb fb) (rb : Rg fb nb) (l1b : nb ≤ cb) (l2b : cb ≤ 9223372036854775807) (ka : na ≤ 12) (kb : nb ≤ 12) (hcmp : val fa na < val fb nb) :
    Calls Try.prog 3 #[.slice pa na ca, .slice pb nb cb] w fun e w' => e = .returned (.bool true) ∧ Below w.heap.size w w' := by
  obtain ⟨i0, hi0, hz0, hz1, hz2⟩ := info_parts info64
  have q8 : i0.bytes ≤ 8 := by omega
  clear hz2
  go_enter Try.func3, Try.ntmps3
  have BW0 : Below w.heap.size w w := Below.refl _ _
  have K : Hid _ := begun_any w
  go_wp2_with fail
  refine Calls.mono K.out ?_
  rintro e W1 ⟨rfl, SB⟩
  clear K
  have BW1 := Below.up BW0 (Nat.le_refl _) SB
  replace ha := ha.below SB
  replace hb := hb.below SB
  clear SB BW0
  have HC : Hid _ := hcmp
  clear hcmp
  have e0 := Own.empty W1 30 .u64 fa (Nat.le_refl W1.heap.size)
  have h1 : AtK .u64 (W1.alloc (.cells #[] 30)) pa na fa := ha.below (below_one W1 _)
  have Z1 : Hid (∀ V : World, V.heap.size ≤ (V.alloc (.cells #[] 30)).heap.size) := fun V => (below_one V _).size
  have HB2 : Hid (∀ V, Below W1.heap.size (W1.alloc (.cells #[] 30)) V → AtK .u64 (V.alloc (.cells #[] 30)) pb nb fb) := fun V h => (hb.below ((below_one W1 _).trans h)).below (below_one V _)
  go_wp2_with (first
    | (at_builtin; refine wpList_append_lim .u64 rfl (.tmp 25) (.tmp 26) 22 (by rfl) W1.heap.size 30 i0 Try.underlying22 hi0 hz0 hz1 q8 _ 0 fa (by rfl) e0 pa na ca fa (by rfl) h1 (by omega) (Z1.out _) ?_; intro v1 X1 ho1 hb1)
    | (at_builtin; refine wpList_append_lim .u64 rfl (.tmp 28) (.tmp 29) 22 (by rfl) X1.heap.size 30 i0 Try.underlying22 hi0 hz0 hz1 q8 _ 0 fb (by rfl) (Own.empty X1 30 .u64 fb (Nat.le_refl _)) pb nb cb fb (by rfl) (HB2.out X1 hb1) (by omega) (Z1.out _) ?_; intro v2 X2 ho2 hb2)
    | fail)
  have B1 : Below W1.heap.size W1 X1 := (below_one W1 _).trans hb1
  have B2 : Below X1.heap.size X1 X2 := (below_one X1 _).trans hb2
  have ox := at_copy ho1
  have oy := at_copy ho2
  obtain ⟨px, cx, rfl, l1x, l2x, hx⟩ := ox.slice
  obtain ⟨py, cy, rfl, l1y, l2y, hy⟩ := oy.slice
  replace hx := hx.below B2
  have SB := Below.up B1 (Nat.le_refl _) B2
  clear ho1 ho2 ox oy hb1 hb2 B1 B2 e0 h1 Z1 HB2
  obtain ⟨W2, hW⟩ : ∃ V, V = X2 := ⟨_, rfl⟩
  subst hW
  have BW2 := Below.up BW1 (Nat.le_refl _) SB
  replace ha := ha.below SB
  replace hb := hb.below SB
  clear SB BW1
  have K : Hid _ := sub_less pa pb na nb ca cb fa fb W2 l1a l2a l1b l2b ha hb ra rb HC.out
  go_wp2_with fail
  refine Calls.mono K.out ?_
  rintro e W3 ⟨rfl, q, hq⟩
  have SB : Below W2.heap.size W2 W3 := by rw [hq]; exact below_draws (Below.refl _ _) q
  clear hq K
  have BW3 := Below.up BW2 (Nat.le_refl _) SB
  replace ha := ha.below SB
  replace hb := hb.below SB
  replace hx := hx.below SB
  replace hy := hy.below SB
  clear SB BW2
  have K : Hid _ := refLess_less px py na nb cx cy fa fb W3 l1x l2x l1y l2y hx hy ra rb HC.out (by omega) (by omega)
  go_wp2_with fail
  refine Calls.mono K.out ?_
  rintro e W4 ⟨rfl, SB⟩
  clear K
  have BW4 := Below.up BW3 (Nat.le_refl _) SB
  replace ha := ha.below SB
  replace hb := hb.below SB
  replace hx := hx.below SB
  replace hy := hy.below SB
  clear SB BW3
  have K : Hid _ := add_any pa pb na nb ca cb fa fb W4 l1a l2a l1b l2b ha hb ra rb (by omega) (by omega)
  go_wp2_with fail
  refine Calls.mono K.out ?_
  rintro e W5 ⟨v, rfl, SB, bs, os, ns, cs, fs, rfl, los, ls, l1s, lNs, ms, rs, nms, vs⟩
  clear K
  have HVs : Hid _ := vs
  have l2s : cs ≤ 9223372036854775807 := by omega
  have hs := ms.at
  have apa := ha.old los
  have apb := hb.old los
  have apx := hx.old los
  have apy := hy.old los
  have bsw : w.heap.size ≤ bs := Nat.le_trans BW4.size los
  clear vs los
  have BW5 := Below.up BW4 (Nat.le_refl _) SB
  replace ha := ha.below SB
  replace hb := hb.below SB
  replace hx := hx.below SB
  replace hy := hy.below SB
  clear SB BW4
  have K : Hid _ := mul_any pa pb na nb ca cb fa fb W5 l1a l2a l1b l2b ha hb ra rb (by omega) (by omega)
  go_wp2_with fail
  refine Calls.mono K.out ?_
  rintro e W6 ⟨v, rfl, SB, bm, om, nm, cm, fm, rfl, lom, lm, l1m, lNm, mm, rm, nmm, vm⟩
  clear K
  have HVm : Hid _ := vm
  clear vm lom
  have l2m : cm ≤ 9223372036854775807 := by omega
  have hm := mm.at
  clear mm lm
  have BW6 := Below.up BW5 (Nat.le_refl _) SB
  replace ha := ha.below SB
  replace hb := hb.below SB
  replace hx := hx.below SB
  replace hy := hy.below SB
  replace hs := hs.below SB
  replace ms := ms.below SB ls
  replace ls := Nat.lt_of_lt_of_le ls SB.size
  clear SB BW5
  have H := compare_any pa pb na nb ca cb fa fb W6 l1a l2a l1b l2b ha hb ra rb
  rw [ord_lt HC.out] at H
  have K : Hid _ := H
  clear H
  go_wp2_with fail
  refine Calls.mono K.out ?_
  rintro e W7 ⟨rfl, q, hq⟩
  have SB : Below W6.heap.size W6 W7 := by rw [hq]; exact below_draws (Below.refl _ _) q
  clear hq K
  have BW7 := Below.up BW6 (Nat.le_refl _) SB
  replace ha := ha.below SB
  replace hb := hb.below SB
  replace hx := hx.below SB
  replace hy := hy.below SB
  replace hs := hs.below SB
  replace hm := hm.below SB
  replace ms := ms.below SB ls
  replace ls := Nat.lt_of_lt_of_le ls SB.size
  clear SB BW6
  have H := refCompare_any px py na nb cx cy fa fb W7 l1x l2x l1y l2y hx hy ra rb (by omega) (by omega)
  rw [ord_lt HC.out] at H
  have K : Hid _ := H
  clear H
  go_wp2_with fail
  refine Calls.mono K.out ?_
  rintro e W8 ⟨rfl, SB⟩
  clear K
  have BW8 := Below.up BW7 (Nat.le_refl _) SB
  replace ha := ha.below SB
  replace hb := hb.below SB
  replace hx := hx.below SB
  replace hy := hy.below SB
  replace hs := hs.below SB
  replace hm := hm.below SB
  replace ms := ms.below SB ls
  replace ls := Nat.lt_of_lt_of_le ls SB.size
  clear SB BW7
  have K : Hid _ := refSum_any px py na nb cx cy fa fb W8 l1x l2x l1y l2y hx hy ra rb (by omega) (by omega)
  go_wp2_with fail
  refine Calls.mono K.out ?_
  rintro e W9 ⟨v, rfl, SB, pu, nu, cu, fu, rfl, l1u, l2u, lNu, hu, ru, nmu, vu⟩
  clear K
  have HVu : Hid _ := vu
  clear vu
  have BW9 := Below.up BW8 (Nat.le_refl _) SB
  replace ha := ha.below SB
  replace hb := hb.below SB
  replace hx := hx.below SB
  replace hy := hy.below SB
  replace hs := hs.below SB
  replace hm := hm.below SB
  replace ms := ms.below SB ls
  replace ls := Nat.lt_of_lt_of_le ls SB.size
  clear SB BW8
  have U := uniq rs ru nms nmu (by rw [HVs.out, HVu.out])
  have H := same_eq (some ⟨bs, os, none⟩) pu ns nu cs cu fs fu W9 (by omega) hs hu U.1 U.2
  clear U
  have K : Hid _ := H
  clear H
  go_wp2_with fail
  refine Calls.mono K.out ?_
  rintro e W10 ⟨rfl, q, hq⟩
  have SB : Below W9.heap.size W9 W10 := by rw [hq]; exact below_draws (Below.refl _ _) q
  clear hq K
  have BW10 := Below.up BW9 (Nat.le_refl _) SB
  replace ha := ha.below SB
  replace hb := hb.below SB
  replace hx := hx.below SB
  replace hy := hy.below SB
  replace hs := hs.below SB
  replace hm := hm.below SB
  replace hu := hu.below SB
  replace ms := ms.below SB ls
  replace ls := Nat.lt_of_lt_of_le ls SB.size
  clear SB BW9
  clear hu
  have K : Hid _ := same_true none none 0 0 0 Z Z W10 (by decide) AtK.nil AtK.nil (fun _ _ => rfl)
  go_wp2_with fail
  refine Calls.mono K.out ?_
  rintro e W11 ⟨rfl, q, hq⟩
  have SB : Below W10.heap.size W10 W11 := by rw [hq]; exact below_draws (Below.refl _ _) q
  clear hq K
  have BW11 := Below.up BW10 (Nat.le_refl _) SB
  replace ha := ha.below SB
  replace hb := hb.below SB
  replace hx := hx.below SB
  replace hy := hy.below SB
  replace hs := hs.below SB
  replace hm := hm.below SB
  replace ms := ms.below SB ls
  replace ls := Nat.lt_of_lt_of_le ls SB.size
  clear SB BW10
  have K : Hid _ := refTimes_any px py na nb cx cy fa fb W11 hx hy ra rb (by omega) (by omega)
  go_wp2_with fail
  refine Calls.mono K.out ?_
  rintro e W12 ⟨v, rfl, SB, pz, nz, cz, fz, rfl, l1z, l2z, lNz, hz, rz, nmz, vz⟩
  clear K
  have HVz : Hid _ := vz
  clear vz
  have BW12 := Below.up BW11 (Nat.le_refl _) SB
  replace ha := ha.below SB
  replace hb := hb.below SB
  replace hx := hx.below SB
  replace hy := hy.below SB
  replace hs := hs.below SB
  replace hm := hm.below SB
  replace ms := ms.below SB ls
  replace ls := Nat.lt_of_lt_of_le ls SB.size
  clear SB BW11
  have U := uniq rm rz nmm nmz (by rw [HVm.out, HVz.out])
  have H := same_eq (some ⟨bm, om, none⟩) pz nm nz cm cz fm fz W12 (by omega) hm hz U.1 U.2
  clear U
  have K : Hid _ := H
  clear H
  go_wp2_with fail
  refine Calls.mono K.out ?_
  rintro e W13 ⟨rfl, q, hq⟩
  have SB : Below W12.heap.size W12 W13 := by rw [hq]; exact below_draws (Below.refl _ _) q
  clear hq K
  have BW13 := Below.up BW12 (Nat.le_refl _) SB
  replace ha := ha.below SB
  replace hb := hb.below SB
  replace hx := hx.below SB
  replace hy := hy.below SB
  replace hs := hs.below SB
  replace hm := hm.below SB
  replace hz := hz.below SB
  replace ms := ms.below SB ls
  replace ls := Nat.lt_of_lt_of_le ls SB.size
  clear SB BW12
  clear hm
  clear hz
  clear hs
  go_wp2
  go_loopw [14] (fun i wr => ∃ (k : Nat) (D : Nat → Int), k ≤ ns ∧ i = .int .i64 k ∧ Upd bs os (os + ns) W13 wr ∧ Mut wr bs os ns D) (fun i _ => ns - (intOf i).toNat)
  case atStart => exact ⟨0, fs, Nat.zero_le _, rfl, Upd.refl _ _ _ _, ms⟩
  case round =>
    obtain ⟨k, D, hk, rfl, hu, hm⟩ := hrel
    by_cases hlt : k < ns
    · obtain ⟨hc0, hz⟩ := hm k hlt
      have HM : Hid _ := hm
      have HU : Hid _ := hu
      clear hm hu
      go_wp2
      go_roundw
      case rel => exact ⟨k + 1, _, by omega, by go_num, Upd.setCell HU.out (by omega) (by omega) _, MutK.set HM.out hlt _⟩
      case measure => simp [intOf]; omega
    · have h1 := ha.upd hu apa
      have h2 := hb.upd hu apb
      have h3 := hx.upd hu apx
      have h4 := hy.upd hu apy
      have BL : Below w.heap.size w wr := BW13.trans (hu.below bsw)
      have K1 : Hid _ := same_true pa px na ca cx fa fa wr (by omega) h1 h3 (fun _ _ => rfl)
      have K2 : Hid (∀ q, _) := fun q => same_true pb py nb cb cy fb fb (wr.drewN q) (by omega) (h2.drewN q) (h4.drewN q) (fun _ _ => rfl)
      clear hm hu h1 h2 h3 h4 ha hb hx hy ms
      go_wp2_with fail
      refine Calls.mono K1.out ?_
      rintro e V1 ⟨rfl, q, rfl⟩
      go_wp2_with fail
      refine Calls.mono (K2.out q) ?_
      rintro e V2 ⟨rfl, q2, rfl⟩
      go_wp2
      go_ret
      exact ⟨rfl, below_draws BL (q + q2)⟩

set_option maxHeartbeats 2000000 in
theorem all_more (pa : Option Addr) (na ca : Nat) (fa : Nat → Int) (pb : Option Addr) (nb cb : Nat) (fb : Nat → Int) (w : World) (ha : At w pa na fa) (ra : Rg fa na) (l1a : na ≤ ca) (l2a : ca ≤ 9223372036854775807) (hb : At w pb nb fb) (rb : Rg fb nb) (l1b : nb ≤ cb) (l2b : cb ≤ 9223372036854775807) (ka : na ≤ 12) (kb : nb ≤ 12) (hcmp : val fb nb ≤ val fa na) :
    Calls Try.prog 3 #[.slice pa na ca, .slice pb nb cb] w fun e w' => e = .returned (.bool true) ∧ Below w.heap.size w w' := by
  obtain ⟨i0, hi0, hz0, hz1, hz2⟩ := info_parts info64
  have q8 : i0.bytes ≤ 8 := by omega
  clear hz2
  go_enter Try.func3, Try.ntmps3
  have BW0 : Below w.heap.size w w := Below.refl _ _
  have K : Hid _ := begun_any w
  go_wp2_with fail
  refine Calls.mono K.out ?_
  rintro e W1 ⟨rfl, SB⟩
  clear K
  have BW1 := Below.up BW0 (Nat.le_refl _) SB
  replace ha := ha.below SB
  replace hb := hb.below SB
  clear SB BW0
  have HC : Hid _ := hcmp
  clear hcmp
  have e0 := Own.empty W1 30 .u64 fa (Nat.le_refl W1.heap.size)
  have h1 : AtK .u64 (W1.alloc (.cells #[] 30)) pa na fa := ha.below (below_one W1 _)
  have Z1 : Hid (∀ V : World, V.heap.size ≤ (V.alloc (.cells #[] 30)).heap.size) := fun V => (below_one V _).size
  have HB2 : Hid (∀ V, Below W1.heap.size (W1.alloc (.cells #[] 30)) V → AtK .u64 (V.alloc (.cells #[] 30)) pb nb fb) := fun V h => (hb.below ((below_one W1 _).trans h)).below (below_one V _)
  go_wp2_with (first
    | (at_builtin; refine wpList_append_lim .u64 rfl (.tmp 25) (.tmp 26) 22 (by rfl) W1.heap.size 30 i0 Try.underlying22 hi0 hz0 hz1 q8 _ 0 fa (by rfl) e0 pa na ca fa (by rfl) h1 (by omega) (Z1.out _) ?_; intro v1 X1 ho1 hb1)
    | (at_builtin; refine wpList_append_lim .u64 rfl (.tmp 28) (.tmp 29) 22 (by rfl) X1.heap.size 30 i0 Try.underlying22 hi0 hz0 hz1 q8 _ 0 fb (by rfl) (Own.empty X1 30 .u64 fb (Nat.le_refl _)) pb nb cb fb (by rfl) (HB2.out X1 hb1) (by omega) (Z1.out _) ?_; intro v2 X2 ho2 hb2)
    | fail)
  have B1 : Below W1.heap.size W1 X1 := (below_one W1 _).trans hb1
  have B2 : Below X1.heap.size X1 X2 := (below_one X1 _).trans hb2
  have ox := at_copy ho1
  have oy := at_copy ho2
  obtain ⟨px, cx, rfl, l1x, l2x, hx⟩ := ox.slice
  obtain ⟨py, cy, rfl, l1y, l2y, hy⟩ := oy.slice
  replace hx := hx.below B2
  have SB := Below.up B1 (Nat.le_refl _) B2
  clear ho1 ho2 ox oy hb1 hb2 B1 B2 e0 h1 Z1 HB2
  obtain ⟨W2, hW⟩ : ∃ V, V = X2 := ⟨_, rfl⟩
  subst hW
  have BW2 := Below.up BW1 (Nat.le_refl _) SB
  replace ha := ha.below SB
  replace hb := hb.below SB
  clear SB BW1
  have HO : Hid (∃ o, 0 ≤ o ∧ ord (val fa na) (val fb nb) = o) := ⟨_, by have h1 := @ord_neg_iff (val fa na) (val fb nb); have h2 := HC.out; omega, rfl⟩
  obtain ⟨o, ho0, hoe⟩ := HO.out
  have HOE : Hid _ := hoe
  clear hoe HO
  have K : Hid _ := sub_any pa pb na nb ca cb fa fb W2 l1a l2a l1b l2b ha hb ra rb (HC.out) (by omega) (by omega)
  go_wp2_with fail
  refine Calls.mono K.out ?_
  rintro e W3 ⟨v, rfl, SB, bd, od, nd, cd, fd, rfl, lod, ld, l1d, lNd, md, rd, nmd, vd⟩
  clear K
  have HVd : Hid _ := vd
  clear vd lod
  have l2d : cd ≤ 9223372036854775807 := by omega
  have hd := md.at
  clear md ld
  have BW3 := Below.up BW2 (Nat.le_refl _) SB
  replace ha := ha.below SB
  replace hb := hb.below SB
  replace hx := hx.below SB
  replace hy := hy.below SB
  clear SB BW2
  have K : Hid _ := refLess_any px py na nb cx cy fa fb W3 l1x l2x l1y l2y hx hy ra rb HC.out (by omega) (by omega)
  go_wp2_with fail
  refine Calls.mono K.out ?_
  rintro e W4 ⟨v, rfl, SB, pg, ng, cg, fg, rfl, l1g, l2g, lNg, hg, rg, nmg, vg⟩
  clear K
  have HVg : Hid _ := vg
  clear vg
  have BW4 := Below.up BW3 (Nat.le_refl _) SB
  replace ha := ha.below SB
  replace hb := hb.below SB
  replace hx := hx.below SB
  replace hy := hy.below SB
  replace hd := hd.below SB
  clear SB BW3
  have K : Hid _ := add_any pa pb na nb ca cb fa fb W4 l1a l2a l1b l2b ha hb ra rb (by omega) (by omega)
  go_wp2_with fail
  refine Calls.mono K.out ?_
  rintro e W5 ⟨v, rfl, SB, bs, os, ns, cs, fs, rfl, los, ls, l1s, lNs, ms, rs, nms, vs⟩
  clear K
  have HVs : Hid _ := vs
  have l2s : cs ≤ 9223372036854775807 := by omega
  have hs := ms.at
  have apa := ha.old los
  have apb := hb.old los
  have apx := hx.old los
  have apy := hy.old los
  have bsw : w.heap.size ≤ bs := Nat.le_trans BW4.size los
  clear vs los
  have BW5 := Below.up BW4 (Nat.le_refl _) SB
  replace ha := ha.below SB
  replace hb := hb.below SB
  replace hx := hx.below SB
  replace hy := hy.below SB
  replace hd := hd.below SB
  replace hg := hg.below SB
  clear SB BW4
  have K : Hid _ := mul_any pa pb na nb ca cb fa fb W5 l1a l2a l1b l2b ha hb ra rb (by omega) (by omega)
  go_wp2_with fail
  refine Calls.mono K.out ?_
  rintro e W6 ⟨v, rfl, SB, bm, om, nm, cm, fm, rfl, lom, lm, l1m, lNm, mm, rm, nmm, vm⟩
  clear K
  have HVm : Hid _ := vm
  clear vm lom
  have l2m : cm ≤ 9223372036854775807 := by omega
  have hm := mm.at
  clear mm lm
  have BW6 := Below.up BW5 (Nat.le_refl _) SB
  replace ha := ha.below SB
  replace hb := hb.below SB
  replace hx := hx.below SB
  replace hy := hy.below SB
  replace hd := hd.below SB
  replace hg := hg.below SB
  replace hs := hs.below SB
  replace ms := ms.below SB ls
  replace ls := Nat.lt_of_lt_of_le ls SB.size
  clear SB BW5
  have H := compare_any pa pb na nb ca cb fa fb W6 l1a l2a l1b l2b ha hb ra rb
  rw [HOE.out] at H
  have K : Hid _ := H
  clear H
  go_wp2_with fail
  refine Calls.mono K.out ?_
  rintro e W7 ⟨rfl, q, hq⟩
  have SB : Below W6.heap.size W6 W7 := by rw [hq]; exact below_draws (Below.refl _ _) q
  clear hq K
  have BW7 := Below.up BW6 (Nat.le_refl _) SB
  replace ha := ha.below SB
  replace hb := hb.below SB
  replace hx := hx.below SB
  replace hy := hy.below SB
  replace hd := hd.below SB
  replace hg := hg.below SB
  replace hs := hs.below SB
  replace hm := hm.below SB
  replace ms := ms.below SB ls
  replace ls := Nat.lt_of_lt_of_le ls SB.size
  clear SB BW6
  have H := refCompare_any px py na nb cx cy fa fb W7 l1x l2x l1y l2y hx hy ra rb (by omega) (by omega)
  rw [HOE.out] at H
  have K : Hid _ := H
  clear H
  go_wp2_with fail
  refine Calls.mono K.out ?_
  rintro e W8 ⟨rfl, SB⟩
  clear K
  have BW8 := Below.up BW7 (Nat.le_refl _) SB
  replace ha := ha.below SB
  replace hb := hb.below SB
  replace hx := hx.below SB
  replace hy := hy.below SB
  replace hd := hd.below SB
  replace hg := hg.below SB
  replace hs := hs.below SB
  replace hm := hm.below SB
  replace ms := ms.below SB ls
  replace ls := Nat.lt_of_lt_of_le ls SB.size
  clear SB BW7
  have K : Hid _ := refSum_any px py na nb cx cy fa fb W8 l1x l2x l1y l2y hx hy ra rb (by omega) (by omega)
  go_wp2_with fail
  refine Calls.mono K.out ?_
  rintro e W9 ⟨v, rfl, SB, pu, nu, cu, fu, rfl, l1u, l2u, lNu, hu, ru, nmu, vu⟩
  clear K
  have HVu : Hid _ := vu
  clear vu
  have BW9 := Below.up BW8 (Nat.le_refl _) SB
  replace ha := ha.below SB
  replace hb := hb.below SB
  replace hx := hx.below SB
  replace hy := hy.below SB
  replace hd := hd.below SB
  replace hg := hg.below SB
  replace hs := hs.below SB
  replace hm := hm.below SB
  replace ms := ms.below SB ls
  replace ls := Nat.lt_of_lt_of_le ls SB.size
  clear SB BW8
  have U := uniq rs ru nms nmu (by rw [HVs.out, HVu.out])
  have H := same_eq (some ⟨bs, os, none⟩) pu ns nu cs cu fs fu W9 (by omega) hs hu U.1 U.2
  clear U
  have K : Hid _ := H
  clear H
  go_wp2_with fail
  refine Calls.mono K.out ?_
  rintro e W10 ⟨rfl, q, hq⟩
  have SB : Below W9.heap.size W9 W10 := by rw [hq]; exact below_draws (Below.refl _ _) q
  clear hq K
  have BW10 := Below.up BW9 (Nat.le_refl _) SB
  replace ha := ha.below SB
  replace hb := hb.below SB
  replace hx := hx.below SB
  replace hy := hy.below SB
  replace hd := hd.below SB
  replace hg := hg.below SB
  replace hs := hs.below SB
  replace hm := hm.below SB
  replace hu := hu.below SB
  replace ms := ms.below SB ls
  replace ls := Nat.lt_of_lt_of_le ls SB.size
  clear SB BW9
  clear hu
  have U := uniq rd rg nmd nmg (by rw [HVd.out, HVg.out])
  have H := same_eq (some ⟨bd, od, none⟩) pg nd ng cd cg fd fg W10 (by omega) hd hg U.1 U.2
  clear U
  have K : Hid _ := H
  clear H
  go_wp2_with fail
  refine Calls.mono K.out ?_
  rintro e W11 ⟨rfl, q, hq⟩
  have SB : Below W10.heap.size W10 W11 := by rw [hq]; exact below_draws (Below.refl _ _) q
  clear hq K
  have BW11 := Below.up BW10 (Nat.le_refl _) SB
  replace ha := ha.below SB
  replace hb := hb.below SB
  replace hx := hx.below SB
  replace hy := hy.below SB
  replace hd := hd.below SB
  replace hg := hg.below SB
  replace hs := hs.below SB
  replace hm := hm.below SB
  replace ms := ms.below SB ls
  replace ls := Nat.lt_of_lt_of_le ls SB.size
  clear SB BW10
  clear hd
  clear hg
  have K : Hid _ := refTimes_any px py na nb cx cy fa fb W11 hx hy ra rb (by omega) (by omega)
  go_wp2_with fail
  refine Calls.mono K.out ?_
  rintro e W12 ⟨v, rfl, SB, pz, nz, cz, fz, rfl, l1z, l2z, lNz, hz, rz, nmz, vz⟩
  clear K
  have HVz : Hid _ := vz
  clear vz
  have BW12 := Below.up BW11 (Nat.le_refl _) SB
  replace ha := ha.below SB
  replace hb := hb.below SB
  replace hx := hx.below SB
  replace hy := hy.below SB
  replace hs := hs.below SB
  replace hm := hm.below SB
  replace ms := ms.below SB ls
  replace ls := Nat.lt_of_lt_of_le ls SB.size
  clear SB BW11
  have U := uniq rm rz nmm nmz (by rw [HVm.out, HVz.out])
  have H := same_eq (some ⟨bm, om, none⟩) pz nm nz cm cz fm fz W12 (by omega) hm hz U.1 U.2
  clear U
  have K : Hid _ := H
  clear H
  go_wp2_with fail
  refine Calls.mono K.out ?_
  rintro e W13 ⟨rfl, q, hq⟩
  have SB : Below W12.heap.size W12 W13 := by rw [hq]; exact below_draws (Below.refl _ _) q
  clear hq K
  have BW13 := Below.up BW12 (Nat.le_refl _) SB
  replace ha := ha.below SB
  replace hb := hb.below SB
  replace hx := hx.below SB
  replace hy := hy.below SB
  replace hs := hs.below SB
  replace hm := hm.below SB
  replace hz := hz.below SB
  replace ms := ms.below SB ls
  replace ls := Nat.lt_of_lt_of_le ls SB.size
  clear SB BW12
  clear hm
  clear hz
  clear hs
  go_wp2
  go_loopw [14] (fun i wr => ∃ (k : Nat) (D : Nat → Int), k ≤ ns ∧ i = .int .i64 k ∧ Upd bs os (os + ns) W13 wr ∧ Mut wr bs os ns D) (fun i _ => ns - (intOf i).toNat)
  case atStart => exact ⟨0, fs, Nat.zero_le _, rfl, Upd.refl _ _ _ _, ms⟩
  case round =>
    obtain ⟨k, D, hk, rfl, hu, hm⟩ := hrel
    by_cases hlt : k < ns
    · obtain ⟨hc0, hz⟩ := hm k hlt
      have HM : Hid _ := hm
      have HU : Hid _ := hu
      clear hm hu
      go_wp2
      go_roundw
      case rel => exact ⟨k + 1, _, by omega, by go_num, Upd.setCell HU.out (by omega) (by omega) _, MutK.set HM.out hlt _⟩
      case measure => simp [intOf]; omega
    · have h1 := ha.upd hu apa
      have h2 := hb.upd hu apb
      have h3 := hx.upd hu apx
      have h4 := hy.upd hu apy
      have BL : Below w.heap.size w wr := BW13.trans (hu.below bsw)
      have K1 : Hid _ := same_true pa px na ca cx fa fa wr (by omega) h1 h3 (fun _ _ => rfl)
      have K2 : Hid (∀ q, _) := fun q => same_true pb py nb cb cy fb fb (wr.drewN q) (by omega) (h2.drewN q) (h4.drewN q) (fun _ _ => rfl)
      clear hm hu h1 h2 h3 h4 ha hb hx hy ms
      go_wp2_with fail
      refine Calls.mono K1.out ?_
      rintro e V1 ⟨rfl, q, rfl⟩
      go_wp2_with fail
      refine Calls.mono (K2.out q) ?_
      rintro e V2 ⟨rfl, q2, rfl⟩
      go_wp2
      go_ret
      exact ⟨rfl, below_draws BL (q + q2)⟩

theorem all_any (pa : Option Addr) (na ca : Nat) (fa : Nat → Int) (pb : Option Addr) (nb cb : Nat) (fb : Nat → Int) (w : World) (ha : At w pa na fa) (ra : Rg fa na) (l1a : na ≤ ca) (l2a : ca ≤ 9223372036854775807) (hb : At w pb nb fb) (rb : Rg fb nb) (l1b : nb ≤ cb) (l2b : cb ≤ 9223372036854775807) :
    Calls Try.prog 3 #[.slice pa na ca, .slice pb nb cb] w fun e w' => e = .returned (.bool true) ∧ Below w.heap.size w w' := by
  by_cases hl : 12 < na ∨ (na ≤ 12 ∧ 12 < nb)
  · exact all_long pa na ca fa pb nb cb fb w ha ra l1a l2a hb rb l1b l2b hl
  · by_cases hc : val fa na < val fb nb
    · exact all_less pa na ca fa pb nb cb fb w ha ra l1a l2a hb rb l1b l2b (by omega) (by omega) hc
    · exact all_more pa na ca fa pb nb cb fb w ha ra l1a l2a hb rb l1b l2b (by omega) (by omega) (by omega)
end Go.Proofs.Ytnijhifingdmlaa
