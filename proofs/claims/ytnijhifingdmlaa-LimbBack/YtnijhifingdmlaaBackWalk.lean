/- The statement LimbBack: its walk. -/
import Derived.Test.YtnijhifingdmlaaWO
namespace Go.Proofs.Ytnijhifingdmlaa
open Go.RowKit
set_option linter.unusedVariables false

theorem same_eq (pa pb : Option Addr) (na nb ca cb : Nat) (f g : Nat → Int) (w : World) (hn : na ≤ 17592186044416) (ha : At w pa na f) (hb : At w pb nb g) (e : na = nb) (e2 : ∀ i, i < na → f i = g i) :
    Calls Try.prog 16 #[.slice pa na ca, .slice pb nb cb] w fun e w' => e = .returned (.bool true) ∧ ∃ q, w' = w.drewN q := by
  subst e
  exact same_true pa pb na ca cb f g w hn ha hb e2

theorem bitLen_le64 {x : Int} (h : 0 ≤ x ∧ x < B64) : bitLen x.toNat ≤ 64 := by
  have sp := bitLen_spec x.toNat
  rcases Nat.lt_or_ge 64 (bitLen x.toNat) with c2 | c2
  · exfalso
    have hne : x.toNat ≠ 0 := by intro z; rw [z] at c2; simp [bitLen] at c2
    have h2 := sp.2 hne
    have h3 : 2 ^ 64 ≤ 2 ^ (bitLen x.toNat - 1) := Nat.pow_le_pow_right (by decide) (by omega)
    rw [B64_eq] at h
    omega
  · exact c2

theorem sz_le {f : Nat → Int} {n : Nat} (r : Rg f n) : sz f n ≤ 8 * n := by
  unfold sz
  have t := tl_le f n
  split
  · omega
  · have b := bitLen_le64 (r (tl f n - 1) (by omega))
    omega

theorem v8_mod (x : Int) (k : Nat) : v8 (fun t => x / 2 ^ (8 * t) % 256) k = x % 2 ^ (8 * k) := by
  induction k with
  | zero => simp [v8]
  | succ k ih =>
    rw [v8, ih, show 8 * (k + 1) = 8 * k + 8 by omega, Int.pow_add]
    have p : (0 : Int) < 2 ^ (8 * k) := Int.pow_pos (by decide)
    show _ = x % (2 ^ (8 * k) * 256)
    generalize (2 : Int) ^ (8 * k) = P at *
    have e1 := Int.emod_add_mul_ediv x P
    have e2 := Int.emod_add_mul_ediv (x / P) 256
    have e3 : x / (P * 256) = x / P / 256 := (Int.ediv_ediv_of_nonneg (Int.le_of_lt p)).symm
    have e4 := Int.emod_add_mul_ediv x (P * 256)
    rw [e3] at e4
    generalize x / P / 256 = d at *
    generalize x / P % 256 = c at *
    generalize x / P = b at *
    generalize x % P = a at *
    generalize x % (P * 256) = z at *
    grind

theorem pl_put {f : Nat → Int} {m n q : Nat} (rf : Rg f m) (hq : 8 * q + 8 ≤ n) : pl (fun j => byt f m (n - 1 - j)) n n q = lm f m q := by
  have r := lm_rg rf (q + 1) q (by omega)
  unfold pl
  rw [show min 8 (n - 8 * q) = 8 by omega]
  have e : v8 (fun t => byt f m (n - 1 - (n - 1 - (8 * q + t)))) 8 = v8 (fun t => lm f m q / 2 ^ (8 * t) % 256) 8 := by
    have g : ∀ k, k ≤ 8 → v8 (fun t => byt f m (n - 1 - (n - 1 - (8 * q + t)))) k = v8 (fun t => lm f m q / 2 ^ (8 * t) % 256) k := by
      intro k hk
      induction k with
      | zero => rfl
      | succ k ih =>
        rw [v8, v8, ih (by omega)]
        congr 2
        show byt f m _ = _
        rw [show n - 1 - (n - 1 - (8 * q + k)) = 8 * q + k by omega]
        unfold byt
        rw [show (8 * q + k) / 8 = q by omega, show (8 * q + k) % 8 = k by omega]
    exact g 8 (by omega)
  rw [e, v8_mod]
  rw [B64_eq] at r
  exact Int.emod_eq_of_lt r.1 r.2

theorem val_pad {f : Nat → Int} {n m : Nat} (hn : n ≤ m) (h : ∀ i, n ≤ i → i < m → f i = 0) : val f m = val f n := by
  have := val_high_eq (f := f) (g := Z) hn (fun i h1 h2 => h i h1 h2)
  rw [val_zero (f := Z) (fun _ _ => rfl), val_zero (f := Z) (fun _ _ => rfl)] at this
  omega

theorem byt_rg (f : Nat → Int) (n i : Nat) : 0 ≤ byt f n i ∧ byt f n i < 256 := by unfold byt; omega

theorem back_long (pa : Option Addr) (na ca : Nat) (fa : Nat → Int) (more : Int) (w : World) (ha : At w pa na fa) (ra : Rg fa na) (l1a : na ≤ ca) (l2a : ca ≤ 9223372036854775807) (hmo : 0 ≤ more ∧ more ≤ 255) (hl : 20 < na) :
    Calls Try.prog 6 #[.slice pa na ca, .int .u8 more] w fun e w' => e = .returned (.bool true) ∧ Below w.heap.size w w' := by
  obtain ⟨i0, hi0, hz0, hz1, hz2⟩ := info_parts info64
  have q8 : i0.bytes ≤ 8 := by omega
  clear hz2
  go_enter Try.func6, Try.ntmps6
  have BW0 : Below w.heap.size w w := Below.refl _ _
  have K : Hid _ := begun_any w
  go_wp2_with fail
  refine Calls.mono K.out ?_
  rintro e W1 ⟨rfl, SB⟩
  clear K
  have BW1 := Below.up BW0 (Nat.le_refl _) SB
  replace ha := ha.below SB
  clear SB BW0
  go_wp2
  go_ret
  exact ⟨rfl, BW1⟩

set_option maxHeartbeats 1000000 in
theorem back_core (pa : Option Addr) (na ca : Nat) (fa : Nat → Int) (more : Int) (w : World) (ha : At w pa na fa) (ra : Rg fa na) (l1a : na ≤ ca) (l2a : ca ≤ 9223372036854775807) (hmo : 0 ≤ more ∧ more ≤ 255) (ka : na ≤ 20) :
    Calls Try.prog 6 #[.slice pa na ca, .int .u8 more] w fun e w' => e = .returned (.bool true) ∧ Below w.heap.size w w' := by
  obtain ⟨i0, hi0, hz0, hz1, hz2⟩ := info_parts info64
  have q8 : i0.bytes ≤ 8 := by omega
  clear hz2
  go_enter Try.func6, Try.ntmps6
  have BW0 : Below w.heap.size w w := Below.refl _ _
  have K : Hid _ := begun_any w
  go_wp2_with fail
  refine Calls.mono K.out ?_
  rintro e W1 ⟨rfl, SB⟩
  clear K
  have BW1 := Below.up BW0 (Nat.le_refl _) SB
  replace ha := ha.below SB
  clear SB BW0
  obtain ⟨t, ht⟩ : ∃ t : Nat, more % 4 = (t : Int) := ⟨(more % 4).toNat, by omega⟩
  have ht4 : t ≤ 3 := by omega
  have HT : Hid _ := ht
  clear ht
  have e0 := Own.empty W1 30 .u64 fa (Nat.le_refl W1.heap.size)
  have h1 : AtK .u64 (W1.alloc (.cells #[] 30)) pa na fa := ha.below (below_one W1 _)
  have z1 : W1.heap.size ≤ (W1.alloc (.cells #[] 30)).heap.size := by rw [World.size_alloc]; omega
  have Z1 : Hid _ := z1
  clear z1
  go_wp2_with (first
    | (at_builtin; refine wpList_append_lim .u64 rfl (.tmp 14) (.tmp 15) 22 (by rfl) W1.heap.size 30 i0 Try.underlying22 hi0 hz0 hz1 q8 _ 0 fa (by rfl) e0 pa na ca fa (by rfl) h1 (by omega) Z1.out ?_; intro v1 X1 ho1 hb1)
    | (at_builtin; refine wpList_append_zeros .u64 .u8 .u8 rfl (.tmp 16) (.tmp 18) 22 5 (by rfl) W1.heap.size 30 i0 Try.underlying22 Try.underlying5 hi0 hz0 hz1 q8 _ (0 + na) (cat fa 0 fa) (by rfl) ho1 t _ (by rfl) HT.out (by omega) (Nat.le_trans Z1.out hb1.size) ?_; intro v2 X2 ho2 hb2)
    | fail)
  have SB : Below W1.heap.size W1 X2 := (below_one W1 _).trans (hb1.trans hb2)
  clear hb1 hb2 ho1 e0 h1 Z1
  have rg0 : Rg (cat (cat fa 0 fa) (0 + na) Z) (0 + na + t) := fun i hi => by
    by_cases c : i < 0 + na
    · rw [cat_lo c, cat_hi (Nat.zero_le _), Nat.sub_zero]; exact ra i (by omega)
    · rw [cat_hi (by omega)]; exact ⟨Int.le_refl _, B64_pos⟩
  have vg0 : val (cat (cat fa 0 fa) (0 + na) Z) (0 + na + t) = val fa na := by
    rw [val_pad (n := 0 + na) (by omega) (fun i h1 h2 => by rw [cat_hi h1]; rfl), Nat.zero_add]
    exact val_congr fun j hj => by rw [cat_lo (by omega), cat_hi (Nat.zero_le _), Nat.sub_zero]
  have ng0 : 0 + na + t ≤ 23 := by omega
  generalize cat (cat fa 0 fa) (0 + na) Z = fg at *
  generalize 0 + na + t = ng at *
  obtain ⟨pg, cg, rfl, l1g, l2g, hg⟩ := ho2.slice
  have HVg : Hid _ := vg0
  clear vg0 ho2
  replace SB := SB
  skip
  obtain ⟨W2, hW2⟩ : ∃ W2, W2 = X2 := ⟨_, rfl⟩
  subst hW2
  have BW2 := Below.up BW1 (Nat.le_refl _) SB
  replace ha := ha.below SB
  clear SB BW1
  have rg := rg0
  clear rg0
  have K : Hid _ := put_any pa na ca 192 fa W2 l1a l2a ha ra (by decide) (Nat.le_trans (sz_le ra) (by omega)) (by omega)
  go_wp2_with fail
  refine Calls.mono K.out ?_
  rintro e W3 ⟨rfl, SB, -, mb⟩
  clear K
  have BW3 := Below.up BW2 (Nat.le_refl _) SB
  replace ha := ha.below SB
  replace hg := hg.below SB
  clear SB BW2
  have K : Hid _ := take_any (some ⟨W2.heap.size, 0, none⟩) 192 192 (fun j => byt fa na (192 - 1 - j)) W3 (Nat.le_refl _) mb.at (fun j _ => byt_rg _ _ _) (by decide)
  clear mb
  go_wp2_with fail
  refine Calls.mono K.out ?_
  rintro e W4 ⟨v, rfl, SB, bx, ox, nx, cx, fx, rfl, lox, lx, l1x, lNx, mx, rx, nmx, vx⟩
  clear K
  have vx2 : val fx nx = val fa na := by
    rw [vx]
    show val (pl (fun j => byt fa na (192 - 1 - j)) 192 192) 24 = _
    rw [val_congr (g := lm fa na) (fun q hq => pl_put ra (by omega)), val_lm fa na 24 (by omega)]
  have HVx : Hid _ := vx2
  clear vx vx2 lox lx
  replace lNx : cx ≤ 24 := lNx
  have l2x : cx ≤ 9223372036854775807 := by omega
  have hx := mx.at
  clear mx
  have BW4 := Below.up BW3 (Nat.le_refl _) SB
  replace ha := ha.below SB
  replace hg := hg.below SB
  clear SB BW3
  have H := compare_any (some ⟨bx, ox, none⟩) pa nx na cx ca fx fa W4 l1x l2x l1a l2a hx ha rx ra
  rw [HVx.out, ord_eq rfl] at H
  have K : Hid _ := H
  clear H
  go_wp2_with fail
  refine Calls.mono K.out ?_
  rintro e W5 ⟨rfl, q, hq⟩
  have SB : Below W4.heap.size W4 W5 := by rw [hq]; exact below_draws (Below.refl _ _) q
  clear hq K
  have BW5 := Below.up BW4 (Nat.le_refl _) SB
  replace ha := ha.below SB
  replace hg := hg.below SB
  replace hx := hx.below SB
  clear SB BW4
  have H := compare_any pg pa ng na cg ca fg fa W5 l1g l2g l1a l2a hg ha rg ra
  rw [HVg.out, ord_eq rfl] at H
  have K : Hid _ := H
  clear H
  go_wp2_with fail
  refine Calls.mono K.out ?_
  rintro e W6 ⟨rfl, q, hq⟩
  have SB : Below W5.heap.size W5 W6 := by rw [hq]; exact below_draws (Below.refl _ _) q
  clear hq K
  have BW6 := Below.up BW5 (Nat.le_refl _) SB
  replace ha := ha.below SB
  replace hg := hg.below SB
  replace hx := hx.below SB
  clear SB BW5
  cases nx with
  | zero =>
    have K : Hid _ := add_any pg none ng 0 cg 0 fg Z W6 l1g l2g (Nat.le_refl _) (by decide) hg AtK.nil rg (fun i hi => absurd hi (by omega)) (by omega) (by decide)
    go_wp2_with fail
    refine Calls.mono K.out ?_
    rintro e W7 ⟨v, rfl, SB, bs, os, ns, cs, fs, rfl, los, ls, l1s, lNs, ms, rs, nms, vs⟩
    clear K
    have HVs : Hid _ := vs
    clear vs los
    have l2s : cs ≤ 9223372036854775807 := by omega
    have hs := ms.at
    clear ms ls
    have BW7 := Below.up BW6 (Nat.le_refl _) SB
    replace ha := ha.below SB
    replace hg := hg.below SB
    replace hx := hx.below SB
    clear SB BW6
    have U := uniq rs rx nms nmx (by rw [HVs.out, HVg.out, HVx.out, show val Z 0 = 0 from rfl, Int.add_zero])
    have H := same_eq (some ⟨bs, os, none⟩) (some ⟨bx, ox, none⟩) ns 0 cs cx fs fx W7 (by omega) hs hx U.1 U.2
    clear U
    have K : Hid _ := H
    clear H
    go_wp2_with fail
    refine Calls.mono K.out ?_
    rintro e W8 ⟨rfl, q, hq⟩
    have SB : Below W7.heap.size W7 W8 := by rw [hq]; exact below_draws (Below.refl _ _) q
    clear hq K
    have BW8 := Below.up BW7 (Nat.le_refl _) SB
    replace ha := ha.below SB
    replace hg := hg.below SB
    replace hx := hx.below SB
    replace hs := hs.below SB
    clear SB BW7
    go_wp2
    go_ret
    exact ⟨rfl, BW8⟩
  | succ t2 =>
    have hnz : (fx t2 != 0) = true := by
      rcases nmx with h | h
      · omega
      · simpa using h
    have ht0 : (((t2 : Nat) : Int) + 1 == 0) = false := by simp; omega
    obtain ⟨bb, oo, hpe, hcell⟩ := hx (by omega)
    have hlast := hcell t2 (by omega)
    simp only [Option.some.injEq, Addr.mk.injEq, and_true] at hpe
    obtain ⟨rfl, rfl⟩ := hpe
    clear hcell
    have K : Hid _ := add_any pg none ng 0 cg 0 fg Z W6 l1g l2g (Nat.le_refl _) (by decide) hg AtK.nil rg (fun i hi => absurd hi (by omega)) (by omega) (by decide)
    go_wp2_with fail
    refine Calls.mono K.out ?_
    rintro e W7 ⟨v, rfl, SB, bs, os, ns, cs, fs, rfl, los, ls, l1s, lNs, ms, rs, nms, vs⟩
    clear K
    have HVs : Hid _ := vs
    clear vs los
    have l2s : cs ≤ 9223372036854775807 := by omega
    have hs := ms.at
    clear ms ls
    have BW7 := Below.up BW6 (Nat.le_refl _) SB
    replace ha := ha.below SB
    replace hg := hg.below SB
    replace hx := hx.below SB
    clear SB BW6
    have U := uniq rs rx nms nmx (by rw [HVs.out, HVg.out, HVx.out, show val Z 0 = 0 from rfl, Int.add_zero])
    have H := same_eq (some ⟨bs, os, none⟩) (some ⟨bx, ox, none⟩) ns (t2 + 1) cs cx fs fx W7 (by omega) hs hx U.1 U.2
    clear U
    have K : Hid _ := H
    clear H
    go_wp2_with fail
    refine Calls.mono K.out ?_
    rintro e W8 ⟨rfl, q, hq⟩
    have SB : Below W7.heap.size W7 W8 := by rw [hq]; exact below_draws (Below.refl _ _) q
    clear hq K
    have BW8 := Below.up BW7 (Nat.le_refl _) SB
    replace ha := ha.below SB
    replace hg := hg.below SB
    replace hx := hx.below SB
    replace hs := hs.below SB
    clear SB BW7
    go_wp2
    go_ret
    exact ⟨rfl, BW8⟩

theorem back_any (pa : Option Addr) (na ca : Nat) (fa : Nat → Int) (more : Int) (w : World) (ha : At w pa na fa) (ra : Rg fa na) (l1a : na ≤ ca) (l2a : ca ≤ 9223372036854775807) (hmo : 0 ≤ more ∧ more ≤ 255) :
    Calls Try.prog 6 #[.slice pa na ca, .int .u8 more] w fun e w' => e = .returned (.bool true) ∧ Below w.heap.size w w' := by
  by_cases hl : 20 < na
  · exact back_long pa na ca fa more w ha ra l1a l2a hmo hl
  · exact back_core pa na ca fa more w ha ra l1a l2a hmo (by omega)
end Go.Proofs.Ytnijhifingdmlaa
