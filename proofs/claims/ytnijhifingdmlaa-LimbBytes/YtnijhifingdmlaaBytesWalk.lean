/- The statement LimbBytes: its walk. -/
import Derived.Test.YtnijhifingdmlaaWQ
namespace Go.Proofs.Ytnijhifingdmlaa
open Go.RowKit
set_option linter.unusedVariables false

theorem same_eq (pa pb : Option Addr) (na nb ca cb : Nat) (f g : Nat → Int) (w : World) (hn : na ≤ 17592186044416) (ha : At w pa na f) (hb : At w pb nb g) (e : na = nb) (e2 : ∀ i, i < na → f i = g i) :
    Calls Try.prog 16 #[.slice pa na ca, .slice pb nb cb] w fun e w' => e = .returned (.bool true) ∧ ∃ q, w' = w.drewN q := by
  subst e
  exact same_true pa pb na ca cb f g w hn ha hb e2

/-- string(b) of bytes in a block. -/
theorem str_of (w : World) (b n cap : Nat) (f : Nat → Int) (h : MutK .u8 w b 0 n f) :
    (convert 31 9 (.slice (some ⟨b, 0, none⟩) n cap)).run Try.prog w = .ok (.string (strOfNums ((List.range n).map f))) w :=
  run_convert_bytes_arg w 31 5 Try.underlying31 Try.underlying5 b 0 n cap ((List.range n).map f) (by simp) (fun i hi => by
    rw [(h i hi).1]
    simp [hi]) 9 Try.underlying9
theorem str_nil (w : World) : (convert 31 9 (.slice none 0 0)).run Try.prog w = .ok (.string ByteArray.empty) w :=
  run_convert_bytes_nil w 31 5 Try.underlying31 Try.underlying5 0 0 9 Try.underlying9

theorem bytes_long (pa : Option Addr) (na ca : Nat) (fa : Nat → Int) (n : Int) (pb : Option Addr) (nb cb : Nat) (fb : Nat → Int) (w : World) (ha : At w pa na fa) (ra : Rg fa na) (l1a : na ≤ ca) (l2a : ca ≤ 9223372036854775807) (hb : AtK .u8 w pb nb fb) (rb : ∀ j, j < nb → 0 ≤ fb j ∧ fb j < 256) (l1b : nb ≤ cb) (hl : 24 < na ∨ (na ≤ 24 ∧ 192 < nb)) :
    Calls Try.prog 5 #[.slice pa na ca, .int .i64 n, .slice pb nb cb] w fun e w' => e = .returned (.bool true) ∧ Below w.heap.size w w' := by
  go_enter Try.func5, Try.ntmps5
  rcases hl with hl | ⟨hl1, hl2⟩
  · have BW0 : Below w.heap.size w w := Below.refl _ _
    have K : Hid _ := begun_any w
    go_wp2_with fail
    refine Calls.mono K.out ?_
    rintro e W1 ⟨rfl, SB⟩
    clear K
    have BW1 := Below.up BW0 (Nat.le_refl _) SB
    replace ha := ha.below SB
    replace hb := hb.below SB
    clear SB BW0
    go_wp2
    go_ret
    exact ⟨rfl, BW1⟩
  · have BW0 : Below w.heap.size w w := Below.refl _ _
    have K : Hid _ := begun_any w
    go_wp2_with fail
    refine Calls.mono K.out ?_
    rintro e W1 ⟨rfl, SB⟩
    clear K
    have BW1 := Below.up BW0 (Nat.le_refl _) SB
    replace ha := ha.below SB
    replace hb := hb.below SB
    clear SB BW0
    go_wp2
    go_ret
    exact ⟨rfl, BW1⟩

theorem bytes_out (pa : Option Addr) (na ca : Nat) (fa : Nat → Int) (n : Int) (pb : Option Addr) (nb cb : Nat) (fb : Nat → Int) (w : World) (ha : At w pa na fa) (ra : Rg fa na) (l1a : na ≤ ca) (l2a : ca ≤ 9223372036854775807) (hb : AtK .u8 w pb nb fb) (rb : ∀ j, j < nb → 0 ≤ fb j ∧ fb j < 256) (l1b : nb ≤ cb) (ka : na ≤ 24) (kb : nb ≤ 192) (hn : n < 0 ∨ 192 < n) :
    Calls Try.prog 5 #[.slice pa na ca, .int .i64 n, .slice pb nb cb] w fun e w' => e = .returned (.bool true) ∧ Below w.heap.size w w' := by
  go_enter Try.func5, Try.ntmps5
  have BW0 : Below w.heap.size w w := Below.refl _ _
  have K : Hid _ := begun_any w
  go_wp2_with fail
  refine Calls.mono K.out ?_
  rintro e W1 ⟨rfl, SB⟩
  clear K
  have BW1 := Below.up BW0 (Nat.le_refl _) SB
  replace ha := ha.below SB
  replace hb := hb.below SB
  clear SB BW0
  have HN : Hid _ := hn
  clear hn
  have K : Hid _ := put_err pa na ca fa n W1 l1a l2a ha ra (by have := HN.out; omega) (by omega)
  go_wp2_with fail
  refine Calls.mono K.out ?_
  rintro e W2 ⟨rfl, hq⟩
  have SB : Below W1.heap.size W1 W2 := by rw [hq]; exact Below.refl _ _
  clear hq K
  have BW2 := Below.up BW1 (Nat.le_refl _) SB
  replace ha := ha.below SB
  replace hb := hb.below SB
  clear SB BW1
  have K : Hid _ := refPut_out pa na ca fa n W2 l1a l2a ha (by omega) HN.out
  go_wp2_with fail
  refine Calls.mono K.out ?_
  rintro e W3 ⟨rfl, SB⟩
  clear K
  have BW3 := Below.up BW2 (Nat.le_refl _) SB
  replace ha := ha.below SB
  replace hb := hb.below SB
  clear SB BW2
  have hst := str_nil W3
  have K : Hid _ := take_any pb nb cb fb W3 l1b hb rb (by omega)
  go_wp2_with fail
  refine Calls.mono K.out ?_
  rintro e W4 ⟨v, rfl, SB, bx, ox, nx, cx, fx, rfl, lox, lx, l1x, lNx, mx, rx, nmx, vx⟩
  clear K
  have HVx : Hid _ := vx
  clear vx lox
  have l2x : cx ≤ 9223372036854775807 := by omega
  have hx := mx.at
  clear mx lx
  have BW4 := Below.up BW3 (Nat.le_refl _) SB
  replace ha := ha.below SB
  replace hb := hb.below SB
  clear SB BW3
  have K : Hid _ := refTake_any pb nb cb fb W4 hb rb (by omega)
  go_wp2_with fail
  refine Calls.mono K.out ?_
  rintro e W5 ⟨v, rfl, SB, py, ny, cy, fy, rfl, l1y, l2y, lNy, hy, ry, nmy, vy⟩
  clear K
  have HVy : Hid _ := vy
  clear vy
  have BW5 := Below.up BW4 (Nat.le_refl _) SB
  replace ha := ha.below SB
  replace hb := hb.below SB
  replace hx := hx.below SB
  clear SB BW4
  have U := uniq rx ry nmx nmy (by rw [HVx.out, HVy.out])
  have H := same_eq (some ⟨bx, ox, none⟩) py nx ny cx cy fx fy W5 (by omega) hx hy U.1 U.2
  clear U
  have K : Hid _ := H
  clear H
  go_wp2_with fail
  refine Calls.mono K.out ?_
  rintro e W6 ⟨rfl, q, hq⟩
  have SB : Below W5.heap.size W5 W6 := by rw [hq]; exact below_draws (Below.refl _ _) q
  clear hq K
  have BW6 := Below.up BW5 (Nat.le_refl _) SB
  replace ha := ha.below SB
  replace hb := hb.below SB
  replace hx := hx.below SB
  replace hy := hy.below SB
  clear SB BW5
  go_wp2
  go_ret
  exact ⟨rfl, BW6⟩

theorem bytes_short (pa : Option Addr) (na ca : Nat) (fa : Nat → Int) (N : Nat) (pb : Option Addr) (nb cb : Nat) (fb : Nat → Int) (w : World) (ha : At w pa na fa) (ra : Rg fa na) (l1a : na ≤ ca) (l2a : ca ≤ 9223372036854775807) (hb : AtK .u8 w pb nb fb) (rb : ∀ j, j < nb → 0 ≤ fb j ∧ fb j < 256) (l1b : nb ≤ cb) (ka : na ≤ 24) (kb : nb ≤ 192) (hn : N ≤ 192 ∧ N < sz fa na) :
    Calls Try.prog 5 #[.slice pa na ca, .int .i64 (N : Int), .slice pb nb cb] w fun e w' => e = .returned (.bool true) ∧ Below w.heap.size w w' := by
  go_enter Try.func5, Try.ntmps5
  have BW0 : Below w.heap.size w w := Below.refl _ _
  have K : Hid _ := begun_any w
  go_wp2_with fail
  refine Calls.mono K.out ?_
  rintro e W1 ⟨rfl, SB⟩
  clear K
  have BW1 := Below.up BW0 (Nat.le_refl _) SB
  replace ha := ha.below SB
  replace hb := hb.below SB
  clear SB BW0
  have HN : Hid _ := hn
  clear hn
  have K : Hid _ := put_err pa na ca fa (N : Int) W1 l1a l2a ha ra (by have := HN.out; omega) (by omega)
  go_wp2_with fail
  refine Calls.mono K.out ?_
  rintro e W2 ⟨rfl, hq⟩
  have SB : Below W1.heap.size W1 W2 := by rw [hq]; exact Below.refl _ _
  clear hq K
  have BW2 := Below.up BW1 (Nat.le_refl _) SB
  replace ha := ha.below SB
  replace hb := hb.below SB
  clear SB BW1
  have K : Hid _ := refPut_short pa na ca N fa W2 l1a l2a ha ra (by omega) HN.out.1 HN.out.2
  go_wp2_with fail
  refine Calls.mono K.out ?_
  rintro e W3 ⟨rfl, SB⟩
  clear K
  have BW3 := Below.up BW2 (Nat.le_refl _) SB
  replace ha := ha.below SB
  replace hb := hb.below SB
  clear SB BW2
  have hst := str_nil W3
  have K : Hid _ := take_any pb nb cb fb W3 l1b hb rb (by omega)
  go_wp2_with fail
  refine Calls.mono K.out ?_
  rintro e W4 ⟨v, rfl, SB, bx, ox, nx, cx, fx, rfl, lox, lx, l1x, lNx, mx, rx, nmx, vx⟩
  clear K
  have HVx : Hid _ := vx
  clear vx lox
  have l2x : cx ≤ 9223372036854775807 := by omega
  have hx := mx.at
  clear mx lx
  have BW4 := Below.up BW3 (Nat.le_refl _) SB
  replace ha := ha.below SB
  replace hb := hb.below SB
  clear SB BW3
  have K : Hid _ := refTake_any pb nb cb fb W4 hb rb (by omega)
  go_wp2_with fail
  refine Calls.mono K.out ?_
  rintro e W5 ⟨v, rfl, SB, py, ny, cy, fy, rfl, l1y, l2y, lNy, hy, ry, nmy, vy⟩
  clear K
  have HVy : Hid _ := vy
  clear vy
  have BW5 := Below.up BW4 (Nat.le_refl _) SB
  replace ha := ha.below SB
  replace hb := hb.below SB
  replace hx := hx.below SB
  clear SB BW4
  have U := uniq rx ry nmx nmy (by rw [HVx.out, HVy.out])
  have H := same_eq (some ⟨bx, ox, none⟩) py nx ny cx cy fx fy W5 (by omega) hx hy U.1 U.2
  clear U
  have K : Hid _ := H
  clear H
  go_wp2_with fail
  refine Calls.mono K.out ?_
  rintro e W6 ⟨rfl, q, hq⟩
  have SB : Below W5.heap.size W5 W6 := by rw [hq]; exact below_draws (Below.refl _ _) q
  clear hq K
  have BW6 := Below.up BW5 (Nat.le_refl _) SB
  replace ha := ha.below SB
  replace hb := hb.below SB
  replace hx := hx.below SB
  replace hy := hy.below SB
  clear SB BW5
  go_wp2
  go_ret
  exact ⟨rfl, BW6⟩

theorem bytes_ok (pa : Option Addr) (na ca : Nat) (fa : Nat → Int) (N : Nat) (pb : Option Addr) (nb cb : Nat) (fb : Nat → Int) (w : World) (ha : At w pa na fa) (ra : Rg fa na) (l1a : na ≤ ca) (l2a : ca ≤ 9223372036854775807) (hb : AtK .u8 w pb nb fb) (rb : ∀ j, j < nb → 0 ≤ fb j ∧ fb j < 256) (l1b : nb ≤ cb) (ka : na ≤ 24) (kb : nb ≤ 192) (hn : N ≤ 192 ∧ sz fa na ≤ N) :
    Calls Try.prog 5 #[.slice pa na ca, .int .i64 (N : Int), .slice pb nb cb] w fun e w' => e = .returned (.bool true) ∧ Below w.heap.size w w' := by
  go_enter Try.func5, Try.ntmps5
  have BW0 : Below w.heap.size w w := Below.refl _ _
  have K : Hid _ := begun_any w
  go_wp2_with fail
  refine Calls.mono K.out ?_
  rintro e W1 ⟨rfl, SB⟩
  clear K
  have BW1 := Below.up BW0 (Nat.le_refl _) SB
  replace ha := ha.below SB
  replace hb := hb.below SB
  clear SB BW0
  have HN : Hid _ := hn
  clear hn
  have K : Hid _ := put_any pa na ca N fa W1 l1a l2a ha ra HN.out.1 HN.out.2 (by omega)
  go_wp2_with fail
  refine Calls.mono K.out ?_
  rintro e W2 ⟨rfl, SB, s2, mu⟩
  clear K
  have lu : W1.heap.size < W2.heap.size := by omega
  clear s2
  obtain ⟨bu, hbu⟩ : ∃ b, b = W1.heap.size := ⟨_, rfl⟩
  rw [← hbu] at mu lu ⊢
  clear hbu
  have BW2 := Below.up BW1 (Nat.le_refl _) SB
  replace ha := ha.below SB
  replace hb := hb.below SB
  clear SB BW1
  have K : Hid _ := refPut_any pa na ca N fa W2 l1a l2a ha ra (by omega) HN.out.1 HN.out.2
  go_wp2_with fail
  refine Calls.mono K.out ?_
  rintro e W3 ⟨bv, rfl, SB, mv⟩
  clear K
  have BW3 := Below.up BW2 (Nat.le_refl _) SB
  replace ha := ha.below SB
  replace hb := hb.below SB
  replace mu := mu.below SB lu
  replace lu := Nat.lt_of_lt_of_le lu SB.size
  clear SB BW2
  have s1 := str_of W3 bu N N _ mu
  have s2 := str_of W3 bv N N _ mv
  generalize strOfNums ((List.range N).map fun j => byt fa na (N - 1 - j)) = str at *
  clear mu mv lu
  have K : Hid _ := take_any pb nb cb fb W3 l1b hb rb (by omega)
  go_wp2_with fail
  refine Calls.mono K.out ?_
  rintro e W4 ⟨v, rfl, SB, bx, ox, nx, cx, fx, rfl, lox, lx, l1x, lNx, mx, rx, nmx, vx⟩
  clear K
  have HVx : Hid _ := vx
  clear vx lox
  have l2x : cx ≤ 9223372036854775807 := by omega
  have hx := mx.at
  clear mx lx
  have BW4 := Below.up BW3 (Nat.le_refl _) SB
  replace ha := ha.below SB
  replace hb := hb.below SB
  clear SB BW3
  have K : Hid _ := refTake_any pb nb cb fb W4 hb rb (by omega)
  go_wp2_with fail
  refine Calls.mono K.out ?_
  rintro e W5 ⟨v, rfl, SB, py, ny, cy, fy, rfl, l1y, l2y, lNy, hy, ry, nmy, vy⟩
  clear K
  have HVy : Hid _ := vy
  clear vy
  have BW5 := Below.up BW4 (Nat.le_refl _) SB
  replace ha := ha.below SB
  replace hb := hb.below SB
  replace hx := hx.below SB
  clear SB BW4
  have U := uniq rx ry nmx nmy (by rw [HVx.out, HVy.out])
  have H := same_eq (some ⟨bx, ox, none⟩) py nx ny cx cy fx fy W5 (by omega) hx hy U.1 U.2
  clear U
  have K : Hid _ := H
  clear H
  go_wp2_with fail
  refine Calls.mono K.out ?_
  rintro e W6 ⟨rfl, q, hq⟩
  have SB : Below W5.heap.size W5 W6 := by rw [hq]; exact below_draws (Below.refl _ _) q
  clear hq K
  have BW6 := Below.up BW5 (Nat.le_refl _) SB
  replace ha := ha.below SB
  replace hb := hb.below SB
  replace hx := hx.below SB
  replace hy := hy.below SB
  clear SB BW5
  go_wp2
  go_ret
  exact ⟨rfl, BW6⟩

theorem bytes_any (pa : Option Addr) (na ca : Nat) (fa : Nat → Int) (n : Int) (pb : Option Addr) (nb cb : Nat) (fb : Nat → Int) (w : World) (ha : At w pa na fa) (ra : Rg fa na) (l1a : na ≤ ca) (l2a : ca ≤ 9223372036854775807) (hb : AtK .u8 w pb nb fb) (rb : ∀ j, j < nb → 0 ≤ fb j ∧ fb j < 256) (l1b : nb ≤ cb) :
    Calls Try.prog 5 #[.slice pa na ca, .int .i64 n, .slice pb nb cb] w fun e w' => e = .returned (.bool true) ∧ Below w.heap.size w w' := by
  by_cases hl : 24 < na ∨ (na ≤ 24 ∧ 192 < nb)
  · exact bytes_long pa na ca fa n pb nb cb fb w ha ra l1a l2a hb rb l1b hl
  · by_cases h1 : n < 0 ∨ 192 < n
    · exact bytes_out pa na ca fa n pb nb cb fb w ha ra l1a l2a hb rb l1b (by omega) (by omega) h1
    · obtain ⟨N, rfl⟩ := Int.eq_ofNat_of_zero_le (show 0 ≤ n by omega)
      by_cases h2 : N < sz fa na
      · exact bytes_short pa na ca fa N pb nb cb fb w ha ra l1a l2a hb rb l1b (by omega) (by omega) ⟨by omega, h2⟩
      · exact bytes_ok pa na ca fa N pb nb cb fb w ha ra l1a l2a hb rb l1b (by omega) (by omega) ⟨by omega, by omega⟩
end Go.Proofs.Ytnijhifingdmlaa
