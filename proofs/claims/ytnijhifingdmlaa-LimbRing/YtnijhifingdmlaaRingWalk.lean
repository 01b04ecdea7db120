/- The statement LimbRing: its walk. -/
import Derived.Test.YtnijhifingdmlaaWJ
namespace Go.Proofs.Ytnijhifingdmlaa
open Go.RowKit
set_option linter.unusedVariables false

theorem same_eq (pa pb : Option Addr) (na nb ca cb : Nat) (f g : Nat → Int) (w : World) (hn : na ≤ 17592186044416) (ha : At w pa na f) (hb : At w pb nb g) (e : na = nb) (e2 : ∀ i, i < na → f i = g i) :
    Calls Try.prog 16 #[.slice pa na ca, .slice pb nb cb] w fun e w' => e = .returned (.bool true) ∧ ∃ q, w' = w.drewN q := by
  subst e
  exact same_true pa pb na ca cb f g w hn ha hb e2

theorem ring_long (pa : Option Addr) (na ca : Nat) (fa : Nat → Int) (pb : Option Addr) (nb cb : Nat) (fb : Nat → Int) (pc : Option Addr) (nc cc : Nat) (fc : Nat → Int) (w : World) (ha : At w pa na fa) (ra : Rg fa na) (l1a : na ≤ ca) (l2a : ca ≤ 9223372036854775807) (hb : At w pb nb fb) (rb : Rg fb nb) (l1b : nb ≤ cb) (l2b : cb ≤ 9223372036854775807) (hc : At w pc nc fc) (rc : Rg fc nc) (l1c : nc ≤ cc) (l2c : cc ≤ 9223372036854775807) (hl : 6 < na ∨ (na ≤ 6 ∧ 6 < nb) ∨ (na ≤ 6 ∧ nb ≤ 6 ∧ 6 < nc)) :
    Calls Try.prog 7 #[.slice pa na ca, .slice pb nb cb, .slice pc nc cc] w fun e w' => e = .returned (.bool true) ∧ Below w.heap.size w w' := by
  go_enter Try.func7, Try.ntmps7
  rcases hl with hl | ⟨hl1, hl2⟩ | ⟨hl1, hl2, hl3⟩
  · have BW0 : Below w.heap.size w w := Below.refl _ _
    have K : Hid _ := begun_any w
    go_wp2_with fail
    refine Calls.mono K.out ?_
    rintro e W1 ⟨rfl, SB⟩
    clear K
    have BW1 := Below.up BW0 (Nat.le_refl _) SB
    replace ha := ha.below SB
    replace hb := hb.below SB
    replace hc := hc.below SB
    clear SB BW0
    go_wp2
    go_ret
    exact ⟨rfl, BW1⟩
  · have BW0 : Below w.heap.size w w := Below.refl _ _
    have K : Hid _ := begun_any w
    go_wp2_with fail
    refine Calls.mono K.out ?_
    rintro e W1 ⟨rfl, SB⟩
    clear K
    have BW1 := Below.up BW0 (Nat.le_refl _) SB
    replace ha := ha.below SB
    replace hb := hb.below SB
    replace hc := hc.below SB
    clear SB BW0
    go_wp2
    go_ret
    exact ⟨rfl, BW1⟩
  · have BW0 : Below w.heap.size w w := Below.refl _ _
    have K : Hid _ := begun_any w
    go_wp2_with fail
    refine Calls.mono K.out ?_
    rintro e W1 ⟨rfl, SB⟩
    clear K
    have BW1 := Below.up BW0 (Nat.le_refl _) SB
    replace ha := ha.below SB
    replace hb := hb.below SB
    replace hc := hc.below SB
    clear SB BW0
    go_wp2
    go_ret
    exact ⟨rfl, BW1⟩

set_option maxHeartbeats 1000000 in
theorem ring_zero (pa : Option Addr) (na ca : Nat) (fa : Nat → Int) (pb : Option Addr) (nb cb : Nat) (fb : Nat → Int) (pc : Option Addr) (nc cc : Nat) (fc : Nat → Int) (w : World) (ha : At w pa na fa) (ra : Rg fa na) (l1a : na ≤ ca) (l2a : ca ≤ 9223372036854775807) (hb : At w pb nb fb) (rb : Rg fb nb) (l1b : nb ≤ cb) (l2b : cb ≤ 9223372036854775807) (hc : At w pc nc fc) (rc : Rg fc nc) (l1c : nc ≤ cc) (l2c : cc ≤ 9223372036854775807) (ka : na ≤ 6) (kb : nb ≤ 6) (kc : nc ≤ 6) (hz : val fc nc = 0) :
    Calls Try.prog 7 #[.slice pa na ca, .slice pb nb cb, .slice pc nc cc] w fun e w' => e = .returned (.bool true) ∧ Below w.heap.size w w' := by
  go_enter Try.func7, Try.ntmps7
  have BW0 : Below w.heap.size w w := Below.refl _ _
  have K : Hid _ := begun_any w
  go_wp2_with fail
  refine Calls.mono K.out ?_
  rintro e W1 ⟨rfl, SB⟩
  clear K
  have BW1 := Below.up BW0 (Nat.le_refl _) SB
  replace ha := ha.below SB
  replace hb := hb.below SB
  replace hc := hc.below SB
  clear SB BW0
  have va := (val_bd ra).1
  have vb := (val_bd rb).1
  have HA : Hid _ := va
  have HB : Hid _ := vb
  have HZ : Hid _ := hz
  clear va vb hz
  have K : Hid _ := add_any pa pb na nb ca cb fa fb W1 l1a l2a l1b l2b ha hb ra rb (by omega) (by omega)
  go_wp2_with fail
  refine Calls.mono K.out ?_
  rintro e W2 ⟨v, rfl, SB, bs, os, ns, cs, fs, rfl, los, ls, l1s, lNs, ms, rs, nms, vs⟩
  clear K
  have HVs : Hid _ := vs
  clear vs los
  have l2s : cs ≤ 9223372036854775807 := by omega
  have hs := ms.at
  clear ms ls
  have BW2 := Below.up BW1 (Nat.le_refl _) SB
  replace ha := ha.below SB
  replace hb := hb.below SB
  replace hc := hc.below SB
  clear SB BW1
  have K : Hid _ := mul_any (some ⟨bs, os, none⟩) pc ns nc cs cc fs fc W2 l1s l2s l1c l2c hs hc rs rc (by omega) (by omega)
  go_wp2_with fail
  refine Calls.mono K.out ?_
  rintro e W3 ⟨v, rfl, SB, bx1, ox1, nx1, cx1, fx1, rfl, lox1, lx1, l1x1, lNx1, mx1, rx1, nmx1, vx1⟩
  clear K
  have HVx1 : Hid _ := vx1
  clear vx1 lox1
  have l2x1 : cx1 ≤ 9223372036854775807 := by omega
  have hx1 := mx1.at
  clear mx1 lx1
  have BW3 := Below.up BW2 (Nat.le_refl _) SB
  replace ha := ha.below SB
  replace hb := hb.below SB
  replace hc := hc.below SB
  replace hs := hs.below SB
  clear SB BW2
  have K : Hid _ := mul_any pa pc na nc ca cc fa fc W3 l1a l2a l1c l2c ha hc ra rc (by omega) (by omega)
  go_wp2_with fail
  refine Calls.mono K.out ?_
  rintro e W4 ⟨v, rfl, SB, bx2, ox2, nx2, cx2, fx2, rfl, lox2, lx2, l1x2, lNx2, mx2, rx2, nmx2, vx2⟩
  clear K
  have HVx2 : Hid _ := vx2
  clear vx2 lox2
  have l2x2 : cx2 ≤ 9223372036854775807 := by omega
  have hx2 := mx2.at
  clear mx2 lx2
  have BW4 := Below.up BW3 (Nat.le_refl _) SB
  replace ha := ha.below SB
  replace hb := hb.below SB
  replace hc := hc.below SB
  replace hs := hs.below SB
  replace hx1 := hx1.below SB
  clear SB BW3
  have K : Hid _ := mul_any pb pc nb nc cb cc fb fc W4 l1b l2b l1c l2c hb hc rb rc (by omega) (by omega)
  go_wp2_with fail
  refine Calls.mono K.out ?_
  rintro e W5 ⟨v, rfl, SB, bx3, ox3, nx3, cx3, fx3, rfl, lox3, lx3, l1x3, lNx3, mx3, rx3, nmx3, vx3⟩
  clear K
  have HVx3 : Hid _ := vx3
  clear vx3 lox3
  have l2x3 : cx3 ≤ 9223372036854775807 := by omega
  have hx3 := mx3.at
  clear mx3 lx3
  have BW5 := Below.up BW4 (Nat.le_refl _) SB
  replace ha := ha.below SB
  replace hb := hb.below SB
  replace hc := hc.below SB
  replace hs := hs.below SB
  replace hx1 := hx1.below SB
  replace hx2 := hx2.below SB
  clear SB BW4
  have K : Hid _ := add_any (some ⟨bx2, ox2, none⟩) (some ⟨bx3, ox3, none⟩) nx2 nx3 cx2 cx3 fx2 fx3 W5 l1x2 l2x2 l1x3 l2x3 hx2 hx3 rx2 rx3 (by omega) (by omega)
  go_wp2_with fail
  refine Calls.mono K.out ?_
  rintro e W6 ⟨v, rfl, SB, bx4, ox4, nx4, cx4, fx4, rfl, lox4, lx4, l1x4, lNx4, mx4, rx4, nmx4, vx4⟩
  clear K
  have HVx4 : Hid _ := vx4
  clear vx4 lox4
  have l2x4 : cx4 ≤ 9223372036854775807 := by omega
  have hx4 := mx4.at
  clear mx4 lx4
  have BW6 := Below.up BW5 (Nat.le_refl _) SB
  replace ha := ha.below SB
  replace hb := hb.below SB
  replace hc := hc.below SB
  replace hs := hs.below SB
  replace hx1 := hx1.below SB
  replace hx2 := hx2.below SB
  replace hx3 := hx3.below SB
  clear SB BW5
  have U := uniq rx1 rx4 nmx1 nmx4 (by rw [HVx1.out, HVs.out, HVx4.out, HVx2.out, HVx3.out, Int.add_mul])
  have H := same_eq (some ⟨bx1, ox1, none⟩) (some ⟨bx4, ox4, none⟩) nx1 nx4 cx1 cx4 fx1 fx4 W6 (by omega) hx1 hx4 U.1 U.2
  clear U
  have K : Hid _ := H
  clear H
  go_wp2_with fail
  refine Calls.mono K.out ?_
  rintro e W7 ⟨rfl, q, hq⟩
  have SB : Below W6.heap.size W6 W7 := by rw [hq]; exact below_draws (Below.refl _ _) q
  clear hq K
  have BW7 := Below.up BW6 (Nat.le_refl _) SB
  replace ha := ha.below SB
  replace hb := hb.below SB
  replace hc := hc.below SB
  replace hs := hs.below SB
  replace hx1 := hx1.below SB
  replace hx2 := hx2.below SB
  replace hx3 := hx3.below SB
  replace hx4 := hx4.below SB
  clear SB BW6
  clear hx1
  clear hx2
  clear hx3
  clear hx4
  have K : Hid _ := mul_any pa pb na nb ca cb fa fb W7 l1a l2a l1b l2b ha hb ra rb (by omega) (by omega)
  go_wp2_with fail
  refine Calls.mono K.out ?_
  rintro e W8 ⟨v, rfl, SB, by1, oy1, ny1, cy1, fy1, rfl, loy1, ly1, l1y1, lNy1, my1, ry1, nmy1, vy1⟩
  clear K
  have HVy1 : Hid _ := vy1
  clear vy1 loy1
  have l2y1 : cy1 ≤ 9223372036854775807 := by omega
  have hy1 := my1.at
  clear my1 ly1
  have BW8 := Below.up BW7 (Nat.le_refl _) SB
  replace ha := ha.below SB
  replace hb := hb.below SB
  replace hc := hc.below SB
  replace hs := hs.below SB
  clear SB BW7
  have K : Hid _ := mul_any pb pa nb na cb ca fb fa W8 l1b l2b l1a l2a hb ha rb ra (by omega) (by omega)
  go_wp2_with fail
  refine Calls.mono K.out ?_
  rintro e W9 ⟨v, rfl, SB, by2, oy2, ny2, cy2, fy2, rfl, loy2, ly2, l1y2, lNy2, my2, ry2, nmy2, vy2⟩
  clear K
  have HVy2 : Hid _ := vy2
  clear vy2 loy2
  have l2y2 : cy2 ≤ 9223372036854775807 := by omega
  have hy2 := my2.at
  clear my2 ly2
  have BW9 := Below.up BW8 (Nat.le_refl _) SB
  replace ha := ha.below SB
  replace hb := hb.below SB
  replace hc := hc.below SB
  replace hs := hs.below SB
  replace hy1 := hy1.below SB
  clear SB BW8
  have U := uniq ry1 ry2 nmy1 nmy2 (by rw [HVy1.out, HVy2.out, Int.mul_comm])
  have H := same_eq (some ⟨by1, oy1, none⟩) (some ⟨by2, oy2, none⟩) ny1 ny2 cy1 cy2 fy1 fy2 W9 (by omega) hy1 hy2 U.1 U.2
  clear U
  have K : Hid _ := H
  clear H
  go_wp2_with fail
  refine Calls.mono K.out ?_
  rintro e W10 ⟨rfl, q, hq⟩
  have SB : Below W9.heap.size W9 W10 := by rw [hq]; exact below_draws (Below.refl _ _) q
  clear hq K
  have BW10 := Below.up BW9 (Nat.le_refl _) SB
  replace ha := ha.below SB
  replace hb := hb.below SB
  replace hc := hc.below SB
  replace hs := hs.below SB
  replace hy1 := hy1.below SB
  replace hy2 := hy2.below SB
  clear SB BW9
  clear hy1
  clear hy2
  have K : Hid _ := mul_any pa pb na nb ca cb fa fb W10 l1a l2a l1b l2b ha hb ra rb (by omega) (by omega)
  go_wp2_with fail
  refine Calls.mono K.out ?_
  rintro e W11 ⟨v, rfl, SB, bz1, oz1, nz1, cz1, fz1, rfl, loz1, lz1, l1z1, lNz1, mz1, rz1, nmz1, vz1⟩
  clear K
  have HVz1 : Hid _ := vz1
  clear vz1 loz1
  have l2z1 : cz1 ≤ 9223372036854775807 := by omega
  have hz1 := mz1.at
  clear mz1 lz1
  have BW11 := Below.up BW10 (Nat.le_refl _) SB
  replace ha := ha.below SB
  replace hb := hb.below SB
  replace hc := hc.below SB
  replace hs := hs.below SB
  clear SB BW10
  have K : Hid _ := mul_any (some ⟨bz1, oz1, none⟩) pc nz1 nc cz1 cc fz1 fc W11 l1z1 l2z1 l1c l2c hz1 hc rz1 rc (by omega) (by omega)
  go_wp2_with fail
  refine Calls.mono K.out ?_
  rintro e W12 ⟨v, rfl, SB, bz2, oz2, nz2, cz2, fz2, rfl, loz2, lz2, l1z2, lNz2, mz2, rz2, nmz2, vz2⟩
  clear K
  have HVz2 : Hid _ := vz2
  clear vz2 loz2
  have l2z2 : cz2 ≤ 9223372036854775807 := by omega
  have hz2 := mz2.at
  clear mz2 lz2
  have BW12 := Below.up BW11 (Nat.le_refl _) SB
  replace ha := ha.below SB
  replace hb := hb.below SB
  replace hc := hc.below SB
  replace hs := hs.below SB
  replace hz1 := hz1.below SB
  clear SB BW11
  have K : Hid _ := mul_any pb pc nb nc cb cc fb fc W12 l1b l2b l1c l2c hb hc rb rc (by omega) (by omega)
  go_wp2_with fail
  refine Calls.mono K.out ?_
  rintro e W13 ⟨v, rfl, SB, bz3, oz3, nz3, cz3, fz3, rfl, loz3, lz3, l1z3, lNz3, mz3, rz3, nmz3, vz3⟩
  clear K
  have HVz3 : Hid _ := vz3
  clear vz3 loz3
  have l2z3 : cz3 ≤ 9223372036854775807 := by omega
  have hz3 := mz3.at
  clear mz3 lz3
  have BW13 := Below.up BW12 (Nat.le_refl _) SB
  replace ha := ha.below SB
  replace hb := hb.below SB
  replace hc := hc.below SB
  replace hs := hs.below SB
  replace hz1 := hz1.below SB
  replace hz2 := hz2.below SB
  clear SB BW12
  have K : Hid _ := mul_any pa (some ⟨bz3, oz3, none⟩) na nz3 ca cz3 fa fz3 W13 l1a l2a l1z3 l2z3 ha hz3 ra rz3 (by omega) (by omega)
  go_wp2_with fail
  refine Calls.mono K.out ?_
  rintro e W14 ⟨v, rfl, SB, bz4, oz4, nz4, cz4, fz4, rfl, loz4, lz4, l1z4, lNz4, mz4, rz4, nmz4, vz4⟩
  clear K
  have HVz4 : Hid _ := vz4
  clear vz4 loz4
  have l2z4 : cz4 ≤ 9223372036854775807 := by omega
  have hz4 := mz4.at
  clear mz4 lz4
  have BW14 := Below.up BW13 (Nat.le_refl _) SB
  replace ha := ha.below SB
  replace hb := hb.below SB
  replace hc := hc.below SB
  replace hs := hs.below SB
  replace hz1 := hz1.below SB
  replace hz2 := hz2.below SB
  replace hz3 := hz3.below SB
  clear SB BW13
  have U := uniq rz2 rz4 nmz2 nmz4 (by rw [HVz2.out, HVz1.out, HVz4.out, HVz3.out, Int.mul_assoc])
  have H := same_eq (some ⟨bz2, oz2, none⟩) (some ⟨bz4, oz4, none⟩) nz2 nz4 cz2 cz4 fz2 fz4 W14 (by omega) hz2 hz4 U.1 U.2
  clear U
  have K : Hid _ := H
  clear H
  go_wp2_with fail
  refine Calls.mono K.out ?_
  rintro e W15 ⟨rfl, q, hq⟩
  have SB : Below W14.heap.size W14 W15 := by rw [hq]; exact below_draws (Below.refl _ _) q
  clear hq K
  have BW15 := Below.up BW14 (Nat.le_refl _) SB
  replace ha := ha.below SB
  replace hb := hb.below SB
  replace hc := hc.below SB
  replace hs := hs.below SB
  replace hz1 := hz1.below SB
  replace hz2 := hz2.below SB
  replace hz3 := hz3.below SB
  replace hz4 := hz4.below SB
  clear SB BW14
  clear hz1
  clear hz2
  clear hz3
  clear hz4
  have K : Hid _ := sub_any (some ⟨bs, os, none⟩) pb ns nb cs cb fs fb W15 l1s l2s l1b l2b hs hb rs rb (by rw [HVs.out]; have := HA.out; omega) (by omega) (by omega)
  go_wp2_with fail
  refine Calls.mono K.out ?_
  rintro e W16 ⟨v, rfl, SB, bd, od, nd, cd, fd, rfl, lod, ld, l1d, lNd, md, rd, nmd, vd⟩
  clear K
  have HVd : Hid _ := vd
  clear vd lod
  have l2d : cd ≤ 9223372036854775807 := by omega
  have hd := md.at
  clear md ld
  have BW16 := Below.up BW15 (Nat.le_refl _) SB
  replace ha := ha.below SB
  replace hb := hb.below SB
  replace hc := hc.below SB
  replace hs := hs.below SB
  clear SB BW15
  have H := compare_any (some ⟨bd, od, none⟩) pa nd na cd ca fd fa W16 l1d l2d l1a l2a hd ha rd ra
  rw [HVd.out, HVs.out, ord_eq (by omega)] at H
  have K : Hid _ := H
  clear H
  go_wp2_with fail
  refine Calls.mono K.out ?_
  rintro e W17 ⟨rfl, q, hq⟩
  have SB : Below W16.heap.size W16 W17 := by rw [hq]; exact below_draws (Below.refl _ _) q
  clear hq K
  have BW17 := Below.up BW16 (Nat.le_refl _) SB
  replace ha := ha.below SB
  replace hb := hb.below SB
  replace hc := hc.below SB
  replace hs := hs.below SB
  replace hd := hd.below SB
  clear SB BW16
  clear hd
  clear hs
  have K : Hid _ := rest_zero pa pc na nc ca cc fa fc W17 l1a l2a l1c l2c ha hc rc HZ.out
  go_wp2_with fail
  refine Calls.mono K.out ?_
  rintro e W18 ⟨rfl, hq⟩
  have SB : Below W17.heap.size W17 W18 := by rw [hq]; exact Below.refl _ _
  clear hq K
  have BW18 := Below.up BW17 (Nat.le_refl _) SB
  replace ha := ha.below SB
  replace hb := hb.below SB
  replace hc := hc.below SB
  clear SB BW17
  have H := compare_any pc none nc 0 cc 0 fc Z W18 l1c l2c (Nat.le_refl _) (by decide) hc AtK.nil rc (fun i hi => absurd hi (by omega))
  rw [HZ.out, show val Z 0 = 0 from rfl, ord_eq rfl] at H
  have K : Hid _ := H
  clear H
  go_wp2_with fail
  refine Calls.mono K.out ?_
  rintro e W19 ⟨rfl, q, hq⟩
  have SB : Below W18.heap.size W18 W19 := by rw [hq]; exact below_draws (Below.refl _ _) q
  clear hq K
  have BW19 := Below.up BW18 (Nat.le_refl _) SB
  replace ha := ha.below SB
  replace hb := hb.below SB
  replace hc := hc.below SB
  clear SB BW18
  go_wp2
  go_ret
  exact ⟨rfl, BW19⟩

set_option maxHeartbeats 1000000 in
theorem ring_rest (pa : Option Addr) (na ca : Nat) (fa : Nat → Int) (pb : Option Addr) (nb cb : Nat) (fb : Nat → Int) (pc : Option Addr) (nc cc : Nat) (fc : Nat → Int) (w : World) (ha : At w pa na fa) (ra : Rg fa na) (l1a : na ≤ ca) (l2a : ca ≤ 9223372036854775807) (hb : At w pb nb fb) (rb : Rg fb nb) (l1b : nb ≤ cb) (l2b : cb ≤ 9223372036854775807) (hc : At w pc nc fc) (rc : Rg fc nc) (l1c : nc ≤ cc) (l2c : cc ≤ 9223372036854775807) (ka : na ≤ 6) (kb : nb ≤ 6) (kc : nc ≤ 6) (hz : val fc nc ≠ 0) :
    Calls Try.prog 7 #[.slice pa na ca, .slice pb nb cb, .slice pc nc cc] w fun e w' => e = .returned (.bool true) ∧ Below w.heap.size w w' := by
  go_enter Try.func7, Try.ntmps7
  have BW0 : Below w.heap.size w w := Below.refl _ _
  have K : Hid _ := begun_any w
  go_wp2_with fail
  refine Calls.mono K.out ?_
  rintro e W1 ⟨rfl, SB⟩
  clear K
  have BW1 := Below.up BW0 (Nat.le_refl _) SB
  replace ha := ha.below SB
  replace hb := hb.below SB
  replace hc := hc.below SB
  clear SB BW0
  have va := (val_bd ra).1
  have vb := (val_bd rb).1
  have HA : Hid _ := va
  have HB : Hid _ := vb
  have HZ : Hid _ := hz
  clear va vb hz
  have K : Hid _ := add_any pa pb na nb ca cb fa fb W1 l1a l2a l1b l2b ha hb ra rb (by omega) (by omega)
  go_wp2_with fail
  refine Calls.mono K.out ?_
  rintro e W2 ⟨v, rfl, SB, bs, os, ns, cs, fs, rfl, los, ls, l1s, lNs, ms, rs, nms, vs⟩
  clear K
  have HVs : Hid _ := vs
  clear vs los
  have l2s : cs ≤ 9223372036854775807 := by omega
  have hs := ms.at
  clear ms ls
  have BW2 := Below.up BW1 (Nat.le_refl _) SB
  replace ha := ha.below SB
  replace hb := hb.below SB
  replace hc := hc.below SB
  clear SB BW1
  have K : Hid _ := mul_any (some ⟨bs, os, none⟩) pc ns nc cs cc fs fc W2 l1s l2s l1c l2c hs hc rs rc (by omega) (by omega)
  go_wp2_with fail
  refine Calls.mono K.out ?_
  rintro e W3 ⟨v, rfl, SB, bx1, ox1, nx1, cx1, fx1, rfl, lox1, lx1, l1x1, lNx1, mx1, rx1, nmx1, vx1⟩
  clear K
  have HVx1 : Hid _ := vx1
  clear vx1 lox1
  have l2x1 : cx1 ≤ 9223372036854775807 := by omega
  have hx1 := mx1.at
  clear mx1 lx1
  have BW3 := Below.up BW2 (Nat.le_refl _) SB
  replace ha := ha.below SB
  replace hb := hb.below SB
  replace hc := hc.below SB
  replace hs := hs.below SB
  clear SB BW2
  have K : Hid _ := mul_any pa pc na nc ca cc fa fc W3 l1a l2a l1c l2c ha hc ra rc (by omega) (by omega)
  go_wp2_with fail
  refine Calls.mono K.out ?_
  rintro e W4 ⟨v, rfl, SB, bx2, ox2, nx2, cx2, fx2, rfl, lox2, lx2, l1x2, lNx2, mx2, rx2, nmx2, vx2⟩
  clear K
  have HVx2 : Hid _ := vx2
  clear vx2 lox2
  have l2x2 : cx2 ≤ 9223372036854775807 := by omega
  have hx2 := mx2.at
  clear mx2 lx2
  have BW4 := Below.up BW3 (Nat.le_refl _) SB
  replace ha := ha.below SB
  replace hb := hb.below SB
  replace hc := hc.below SB
  replace hs := hs.below SB
  replace hx1 := hx1.below SB
  clear SB BW3
  have K : Hid _ := mul_any pb pc nb nc cb cc fb fc W4 l1b l2b l1c l2c hb hc rb rc (by omega) (by omega)
  go_wp2_with fail
  refine Calls.mono K.out ?_
  rintro e W5 ⟨v, rfl, SB, bx3, ox3, nx3, cx3, fx3, rfl, lox3, lx3, l1x3, lNx3, mx3, rx3, nmx3, vx3⟩
  clear K
  have HVx3 : Hid _ := vx3
  clear vx3 lox3
  have l2x3 : cx3 ≤ 9223372036854775807 := by omega
  have hx3 := mx3.at
  clear mx3 lx3
  have BW5 := Below.up BW4 (Nat.le_refl _) SB
  replace ha := ha.below SB
  replace hb := hb.below SB
  replace hc := hc.below SB
  replace hs := hs.below SB
  replace hx1 := hx1.below SB
  replace hx2 := hx2.below SB
  clear SB BW4
  have K : Hid _ := add_any (some ⟨bx2, ox2, none⟩) (some ⟨bx3, ox3, none⟩) nx2 nx3 cx2 cx3 fx2 fx3 W5 l1x2 l2x2 l1x3 l2x3 hx2 hx3 rx2 rx3 (by omega) (by omega)
  go_wp2_with fail
  refine Calls.mono K.out ?_
  rintro e W6 ⟨v, rfl, SB, bx4, ox4, nx4, cx4, fx4, rfl, lox4, lx4, l1x4, lNx4, mx4, rx4, nmx4, vx4⟩
  clear K
  have HVx4 : Hid _ := vx4
  clear vx4 lox4
  have l2x4 : cx4 ≤ 9223372036854775807 := by omega
  have hx4 := mx4.at
  clear mx4 lx4
  have BW6 := Below.up BW5 (Nat.le_refl _) SB
  replace ha := ha.below SB
  replace hb := hb.below SB
  replace hc := hc.below SB
  replace hs := hs.below SB
  replace hx1 := hx1.below SB
  replace hx2 := hx2.below SB
  replace hx3 := hx3.below SB
  clear SB BW5
  have U := uniq rx1 rx4 nmx1 nmx4 (by rw [HVx1.out, HVs.out, HVx4.out, HVx2.out, HVx3.out, Int.add_mul])
  have H := same_eq (some ⟨bx1, ox1, none⟩) (some ⟨bx4, ox4, none⟩) nx1 nx4 cx1 cx4 fx1 fx4 W6 (by omega) hx1 hx4 U.1 U.2
  clear U
  have K : Hid _ := H
  clear H
  go_wp2_with fail
  refine Calls.mono K.out ?_
  rintro e W7 ⟨rfl, q, hq⟩
  have SB : Below W6.heap.size W6 W7 := by rw [hq]; exact below_draws (Below.refl _ _) q
  clear hq K
  have BW7 := Below.up BW6 (Nat.le_refl _) SB
  replace ha := ha.below SB
  replace hb := hb.below SB
  replace hc := hc.below SB
  replace hs := hs.below SB
  replace hx1 := hx1.below SB
  replace hx2 := hx2.below SB
  replace hx3 := hx3.below SB
  replace hx4 := hx4.below SB
  clear SB BW6
  clear hx1
  clear hx2
  clear hx3
  clear hx4
  have K : Hid _ := mul_any pa pb na nb ca cb fa fb W7 l1a l2a l1b l2b ha hb ra rb (by omega) (by omega)
  go_wp2_with fail
  refine Calls.mono K.out ?_
  rintro e W8 ⟨v, rfl, SB, by1, oy1, ny1, cy1, fy1, rfl, loy1, ly1, l1y1, lNy1, my1, ry1, nmy1, vy1⟩
  clear K
  have HVy1 : Hid _ := vy1
  clear vy1 loy1
  have l2y1 : cy1 ≤ 9223372036854775807 := by omega
  have hy1 := my1.at
  clear my1 ly1
  have BW8 := Below.up BW7 (Nat.le_refl _) SB
  replace ha := ha.below SB
  replace hb := hb.below SB
  replace hc := hc.below SB
  replace hs := hs.below SB
  clear SB BW7
  have K : Hid _ := mul_any pb pa nb na cb ca fb fa W8 l1b l2b l1a l2a hb ha rb ra (by omega) (by omega)
  go_wp2_with fail
  refine Calls.mono K.out ?_
  rintro e W9 ⟨v, rfl, SB, by2, oy2, ny2, cy2, fy2, rfl, loy2, ly2, l1y2, lNy2, my2, ry2, nmy2, vy2⟩
  clear K
  have HVy2 : Hid _ := vy2
  clear vy2 loy2
  have l2y2 : cy2 ≤ 9223372036854775807 := by omega
  have hy2 := my2.at
  clear my2 ly2
  have BW9 := Below.up BW8 (Nat.le_refl _) SB
  replace ha := ha.below SB
  replace hb := hb.below SB
  replace hc := hc.below SB
  replace hs := hs.below SB
  replace hy1 := hy1.below SB
  clear SB BW8
  have U := uniq ry1 ry2 nmy1 nmy2 (by rw [HVy1.out, HVy2.out, Int.mul_comm])
  have H := same_eq (some ⟨by1, oy1, none⟩) (some ⟨by2, oy2, none⟩) ny1 ny2 cy1 cy2 fy1 fy2 W9 (by omega) hy1 hy2 U.1 U.2
  clear U
  have K : Hid _ := H
  clear H
  go_wp2_with fail
  refine Calls.mono K.out ?_
  rintro e W10 ⟨rfl, q, hq⟩
  have SB : Below W9.heap.size W9 W10 := by rw [hq]; exact below_draws (Below.refl _ _) q
  clear hq K
  have BW10 := Below.up BW9 (Nat.le_refl _) SB
  replace ha := ha.below SB
  replace hb := hb.below SB
  replace hc := hc.below SB
  replace hs := hs.below SB
  replace hy1 := hy1.below SB
  replace hy2 := hy2.below SB
  clear SB BW9
  clear hy1
  clear hy2
  have K : Hid _ := mul_any pa pb na nb ca cb fa fb W10 l1a l2a l1b l2b ha hb ra rb (by omega) (by omega)
  go_wp2_with fail
  refine Calls.mono K.out ?_
  rintro e W11 ⟨v, rfl, SB, bz1, oz1, nz1, cz1, fz1, rfl, loz1, lz1, l1z1, lNz1, mz1, rz1, nmz1, vz1⟩
  clear K
  have HVz1 : Hid _ := vz1
  clear vz1 loz1
  have l2z1 : cz1 ≤ 9223372036854775807 := by omega
  have hz1 := mz1.at
  clear mz1 lz1
  have BW11 := Below.up BW10 (Nat.le_refl _) SB
  replace ha := ha.below SB
  replace hb := hb.below SB
  replace hc := hc.below SB
  replace hs := hs.below SB
  clear SB BW10
  have K : Hid _ := mul_any (some ⟨bz1, oz1, none⟩) pc nz1 nc cz1 cc fz1 fc W11 l1z1 l2z1 l1c l2c hz1 hc rz1 rc (by omega) (by omega)
  go_wp2_with fail
  refine Calls.mono K.out ?_
  rintro e W12 ⟨v, rfl, SB, bz2, oz2, nz2, cz2, fz2, rfl, loz2, lz2, l1z2, lNz2, mz2, rz2, nmz2, vz2⟩
  clear K
  have HVz2 : Hid _ := vz2
  clear vz2 loz2
  have l2z2 : cz2 ≤ 9223372036854775807 := by omega
  have hz2 := mz2.at
  clear mz2 lz2
  have BW12 := Below.up BW11 (Nat.le_refl _) SB
  replace ha := ha.below SB
  replace hb := hb.below SB
  replace hc := hc.below SB
  replace hs := hs.below SB
  replace hz1 := hz1.below SB
  clear SB BW11
  have K : Hid _ := mul_any pb pc nb nc cb cc fb fc W12 l1b l2b l1c l2c hb hc rb rc (by omega) (by omega)
  go_wp2_with fail
  refine Calls.mono K.out ?_
  rintro e W13 ⟨v, rfl, SB, bz3, oz3, nz3, cz3, fz3, rfl, loz3, lz3, l1z3, lNz3, mz3, rz3, nmz3, vz3⟩
  clear K
  have HVz3 : Hid _ := vz3
  clear vz3 loz3
  have l2z3 : cz3 ≤ 9223372036854775807 := by omega
  have hz3 := mz3.at
  clear mz3 lz3
  have BW13 := Below.up BW12 (Nat.le_refl _) SB
  replace ha := ha.below SB
  replace hb := hb.below SB
  replace hc := hc.below SB
  replace hs := hs.below SB
  replace hz1 := hz1.below SB
  replace hz2 := hz2.below SB
  clear SB BW12
  have K : Hid _ := mul_any pa (some ⟨bz3, oz3, none⟩) na nz3 ca cz3 fa fz3 W13 l1a l2a l1z3 l2z3 ha hz3 ra rz3 (by omega) (by omega)
  go_wp2_with fail
  refine Calls.mono K.out ?_
  rintro e W14 ⟨v, rfl, SB, bz4, oz4, nz4, cz4, fz4, rfl, loz4, lz4, l1z4, lNz4, mz4, rz4, nmz4, vz4⟩
  clear K
  have HVz4 : Hid _ := vz4
  clear vz4 loz4
  have l2z4 : cz4 ≤ 9223372036854775807 := by omega
  have hz4 := mz4.at
  clear mz4 lz4
  have BW14 := Below.up BW13 (Nat.le_refl _) SB
  replace ha := ha.below SB
  replace hb := hb.below SB
  replace hc := hc.below SB
  replace hs := hs.below SB
  replace hz1 := hz1.below SB
  replace hz2 := hz2.below SB
  replace hz3 := hz3.below SB
  clear SB BW13
  have U := uniq rz2 rz4 nmz2 nmz4 (by rw [HVz2.out, HVz1.out, HVz4.out, HVz3.out, Int.mul_assoc])
  have H := same_eq (some ⟨bz2, oz2, none⟩) (some ⟨bz4, oz4, none⟩) nz2 nz4 cz2 cz4 fz2 fz4 W14 (by omega) hz2 hz4 U.1 U.2
  clear U
  have K : Hid _ := H
  clear H
  go_wp2_with fail
  refine Calls.mono K.out ?_
  rintro e W15 ⟨rfl, q, hq⟩
  have SB : Below W14.heap.size W14 W15 := by rw [hq]; exact below_draws (Below.refl _ _) q
  clear hq K
  have BW15 := Below.up BW14 (Nat.le_refl _) SB
  replace ha := ha.below SB
  replace hb := hb.below SB
  replace hc := hc.below SB
  replace hs := hs.below SB
  replace hz1 := hz1.below SB
  replace hz2 := hz2.below SB
  replace hz3 := hz3.below SB
  replace hz4 := hz4.below SB
  clear SB BW14
  clear hz1
  clear hz2
  clear hz3
  clear hz4
  have K : Hid _ := sub_any (some ⟨bs, os, none⟩) pb ns nb cs cb fs fb W15 l1s l2s l1b l2b hs hb rs rb (by rw [HVs.out]; have := HA.out; omega) (by omega) (by omega)
  go_wp2_with fail
  refine Calls.mono K.out ?_
  rintro e W16 ⟨v, rfl, SB, bd, od, nd, cd, fd, rfl, lod, ld, l1d, lNd, md, rd, nmd, vd⟩
  clear K
  have HVd : Hid _ := vd
  clear vd lod
  have l2d : cd ≤ 9223372036854775807 := by omega
  have hd := md.at
  clear md ld
  have BW16 := Below.up BW15 (Nat.le_refl _) SB
  replace ha := ha.below SB
  replace hb := hb.below SB
  replace hc := hc.below SB
  replace hs := hs.below SB
  clear SB BW15
  have H := compare_any (some ⟨bd, od, none⟩) pa nd na cd ca fd fa W16 l1d l2d l1a l2a hd ha rd ra
  rw [HVd.out, HVs.out, ord_eq (by omega)] at H
  have K : Hid _ := H
  clear H
  go_wp2_with fail
  refine Calls.mono K.out ?_
  rintro e W17 ⟨rfl, q, hq⟩
  have SB : Below W16.heap.size W16 W17 := by rw [hq]; exact below_draws (Below.refl _ _) q
  clear hq K
  have BW17 := Below.up BW16 (Nat.le_refl _) SB
  replace ha := ha.below SB
  replace hb := hb.below SB
  replace hc := hc.below SB
  replace hs := hs.below SB
  replace hd := hd.below SB
  clear SB BW16
  clear hd
  clear hs
  have HP : Hid (0 < val fc nc) := by have h1 := (val_bd rc).1; have h2 : val fc nc ≠ 0 := HZ.out; show 0 < _; omega
  have K : Hid _ := rest_any pa pc na nc ca cc fa fc W17 l1a l2a l1c l2c ha hc ra rc (by omega) (by omega) (HZ.out)
  go_wp2_with fail
  refine Calls.mono K.out ?_
  rintro e W18 ⟨v, rfl, SB, br, or, nr, cr, fr, rfl, lor, lr, l1r, lNr, mr, rr, nmr, vr⟩
  clear K
  have HVr : Hid _ := vr
  clear vr lor
  have l2r : cr ≤ 9223372036854775807 := by omega
  have hr := mr.at
  clear mr lr
  have BW18 := Below.up BW17 (Nat.le_refl _) SB
  replace ha := ha.below SB
  replace hb := hb.below SB
  replace hc := hc.below SB
  clear SB BW17
  have K : Hid _ := mul_any pb pc nb nc cb cc fb fc W18 l1b l2b l1c l2c hb hc rb rc (by omega) (by omega)
  go_wp2_with fail
  refine Calls.mono K.out ?_
  rintro e W19 ⟨v, rfl, SB, bu1, ou1, nu1, cu1, fu1, rfl, lou1, lu1, l1u1, lNu1, mu1, ru1, nmu1, vu1⟩
  clear K
  have HVu1 : Hid _ := vu1
  clear vu1 lou1
  have l2u1 : cu1 ≤ 9223372036854775807 := by omega
  have hu1 := mu1.at
  clear mu1 lu1
  have BW19 := Below.up BW18 (Nat.le_refl _) SB
  replace ha := ha.below SB
  replace hb := hb.below SB
  replace hc := hc.below SB
  replace hr := hr.below SB
  clear SB BW18
  have K : Hid _ := add_any pa (some ⟨bu1, ou1, none⟩) na nu1 ca cu1 fa fu1 W19 l1a l2a l1u1 l2u1 ha hu1 ra ru1 (by omega) (by omega)
  go_wp2_with fail
  refine Calls.mono K.out ?_
  rintro e W20 ⟨v, rfl, SB, bu2, ou2, nu2, cu2, fu2, rfl, lou2, lu2, l1u2, lNu2, mu2, ru2, nmu2, vu2⟩
  clear K
  have HVu2 : Hid _ := vu2
  clear vu2 lou2
  have l2u2 : cu2 ≤ 9223372036854775807 := by omega
  have hu2 := mu2.at
  clear mu2 lu2
  have BW20 := Below.up BW19 (Nat.le_refl _) SB
  replace ha := ha.below SB
  replace hb := hb.below SB
  replace hc := hc.below SB
  replace hr := hr.below SB
  replace hu1 := hu1.below SB
  clear SB BW19
  have K : Hid _ := rest_any (some ⟨bu2, ou2, none⟩) pc nu2 nc cu2 cc fu2 fc W20 l1u2 l2u2 l1c l2c hu2 hc ru2 rc (by omega) (by omega) (HZ.out)
  go_wp2_with fail
  refine Calls.mono K.out ?_
  rintro e W21 ⟨v, rfl, SB, bt, ot, nt, ct, ft, rfl, lot, lt, l1t, lNt, mt, rt, nmt, vt⟩
  clear K
  have HVt : Hid _ := vt
  clear vt lot
  have l2t : ct ≤ 9223372036854775807 := by omega
  have ht := mt.at
  clear mt lt
  have BW21 := Below.up BW20 (Nat.le_refl _) SB
  replace ha := ha.below SB
  replace hb := hb.below SB
  replace hc := hc.below SB
  replace hr := hr.below SB
  replace hu1 := hu1.below SB
  replace hu2 := hu2.below SB
  clear SB BW20
  have U := uniq rr rt nmr nmt (by rw [HVr.out, HVt.out, HVu2.out, HVu1.out, Int.add_mul_emod_self_right])
  have H := same_eq (some ⟨br, or, none⟩) (some ⟨bt, ot, none⟩) nr nt cr ct fr ft W21 (by omega) hr ht U.1 U.2
  clear U
  have K : Hid _ := H
  clear H
  go_wp2_with fail
  refine Calls.mono K.out ?_
  rintro e W22 ⟨rfl, q, hq⟩
  have SB : Below W21.heap.size W21 W22 := by rw [hq]; exact below_draws (Below.refl _ _) q
  clear hq K
  have BW22 := Below.up BW21 (Nat.le_refl _) SB
  replace ha := ha.below SB
  replace hb := hb.below SB
  replace hc := hc.below SB
  replace hr := hr.below SB
  replace hu1 := hu1.below SB
  replace hu2 := hu2.below SB
  replace ht := ht.below SB
  clear SB BW21
  have H := compare_any (some ⟨br, or, none⟩) pc nr nc cr cc fr fc W22 l1r l2r l1c l2c hr hc rr rc
  rw [HVr.out, ord_lt (Int.emod_lt_of_pos _ HP.out)] at H
  have K : Hid _ := H
  clear H
  go_wp2_with fail
  refine Calls.mono K.out ?_
  rintro e W23 ⟨rfl, q, hq⟩
  have SB : Below W22.heap.size W22 W23 := by rw [hq]; exact below_draws (Below.refl _ _) q
  clear hq K
  have BW23 := Below.up BW22 (Nat.le_refl _) SB
  replace ha := ha.below SB
  replace hb := hb.below SB
  replace hc := hc.below SB
  replace hr := hr.below SB
  replace hu1 := hu1.below SB
  replace hu2 := hu2.below SB
  replace ht := ht.below SB
  clear SB BW22
  go_wp2
  go_ret
  exact ⟨rfl, BW23⟩

theorem ring_any (pa : Option Addr) (na ca : Nat) (fa : Nat → Int) (pb : Option Addr) (nb cb : Nat) (fb : Nat → Int) (pc : Option Addr) (nc cc : Nat) (fc : Nat → Int) (w : World) (ha : At w pa na fa) (ra : Rg fa na) (l1a : na ≤ ca) (l2a : ca ≤ 9223372036854775807) (hb : At w pb nb fb) (rb : Rg fb nb) (l1b : nb ≤ cb) (l2b : cb ≤ 9223372036854775807) (hc : At w pc nc fc) (rc : Rg fc nc) (l1c : nc ≤ cc) (l2c : cc ≤ 9223372036854775807) :
    Calls Try.prog 7 #[.slice pa na ca, .slice pb nb cb, .slice pc nc cc] w fun e w' => e = .returned (.bool true) ∧ Below w.heap.size w w' := by
  by_cases hl : 6 < na ∨ (na ≤ 6 ∧ 6 < nb) ∨ (na ≤ 6 ∧ nb ≤ 6 ∧ 6 < nc)
  · exact ring_long pa na ca fa pb nb cb fb pc nc cc fc w ha ra l1a l2a hb rb l1b l2b hc rc l1c l2c hl
  · by_cases hz : val fc nc = 0
    · exact ring_zero pa na ca fa pb nb cb fb pc nc cc fc w ha ra l1a l2a hb rb l1b l2b hc rc l1c l2c (by omega) (by omega) (by omega) hz
    · exact ring_rest pa na ca fa pb nb cb fb pc nc cc fc w ha ra l1a l2a hb rb l1b l2b hc rc l1c l2c (by omega) (by omega) (by omega) hz
end Go.Proofs.Ytnijhifingdmlaa
