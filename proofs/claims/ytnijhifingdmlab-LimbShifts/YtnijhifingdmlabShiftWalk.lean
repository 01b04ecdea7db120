/- The statement LimbShifts: its walk. -/
import Derived.Test.YtnijhifingdmlabWJ
namespace Go.Proofs.Ytnijhifingdmlab
open Go.RowKit
set_option linter.unusedVariables false

theorem lawCut_any (p : Option Addr) (n cap : Nat) (f : Nat → Int) (w : World) (hn : n ≤ cap) (hcap : cap ≤ 9223372036854775807) (hc : At w p n f) :
    Calls Try.prog 7 #[.slice p n cap] w fun e w' => e = .returned (.slice p (tl f n) cap) ∧ w' = w := by
  go_enter Try.func7, Try.ntmps7
  go_wp2
  go_loop [3] (fun i => ∃ k : Nat, k ≤ n ∧ i = .int .i64 k ∧ tl f k = tl f n) (fun i => (intOf i).toNat)
  case atStart => exact ⟨n, Nat.le_refl _, rfl, rfl⟩
  case round =>
    obtain ⟨k, hk, rfl, ht⟩ := hrel
    have HT : Hid _ := ht
    clear ht
    cases k with
    | zero =>
      go_wp2
      go_ret
      exact ⟨by rw [← HT.out]; rfl, rfl⟩
    | succ k =>
      obtain ⟨b, off, rfl, hcell⟩ := hc (by omega)
      have hm1 := hcell k (by omega)
      by_cases hz : f k = 0
      · have hz' : (f k == 0) = true := by simpa using hz
        have HZ : Hid _ := hz
        clear hz hcell
        go_wp2
        go_round
        case rel => exact ⟨k, by omega, by go_num, by rw [← HT.out, tl, if_pos HZ.out]⟩
        case measure => simp [intOf]
      · have hz' : (f k == 0) = false := by simpa using hz
        have HZ : Hid _ := hz
        clear hz hcell
        go_wp2
        go_ret
        exact ⟨by rw [← HT.out, tl, if_neg HZ.out]; rfl, rfl⟩

theorem two_pow_64 (q : Nat) : (2 : Int) ^ (64 * q) = pw q := by
  induction q with
  | zero => rfl
  | succ q ih =>
    rw [show 64 * (q + 1) = 64 * q + 64 by omega, Int.pow_add, ih, pw]; rfl

/-- A bit of a number is a bit of one of its limbs. -/
theorem bit_of {f : Nat → Int} {n i : Nat} (rf : Rg f n) (hi : i < 64 * n) : val f n / 2 ^ i % 2 = f (i / 64) / 2 ^ (i % 64) % 2 := by
  have e1 : (2 : Int) ^ i = pw (i / 64) * 2 ^ (i % 64) := by
    rw [← two_pow_64, ← Int.pow_add]; congr 1; omega
  obtain ⟨q, hq⟩ : ∃ q, q = i / 64 := ⟨_, rfl⟩
  obtain ⟨t, ht⟩ : ∃ t, t = i % 64 := ⟨_, rfl⟩
  have hqn : q < n := by omega
  have htt : t < 64 := by omega
  rw [e1, ← hq, ← ht]
  have p := pw_pos q
  rw [← Int.ediv_ediv_of_nonneg (Int.le_of_lt p)]
  have vb := val_bd (rf.mono (show q ≤ n by omega))
  have e2 := val_sh f q (n - q)
  rw [show q + (n - q) = n by omega] at e2
  have e3 : val f n / pw q = val (sh f q) (n - q) := by
    rw [e2, Int.add_mul_ediv_left _ _ (by omega), Int.ediv_eq_zero_of_lt vb.1 vb.2]; omega
  rw [e3, show n - q = (n - q - 1) + 1 by omega, sh_step]
  generalize val (sh f (q + 1)) (n - q - 1) = z
  have e4 : B64 = 2 ^ t * 2 ^ (64 - t) := by
    rw [← Int.pow_add, show t + (64 - t) = 64 by omega]; rfl
  have p2 : (0 : Int) < 2 ^ t := Int.pow_pos (by decide)
  rw [e4, show z * (2 ^ t * 2 ^ (64 - t)) + f q = f q + 2 ^ t * (z * 2 ^ (64 - t)) by grind, Int.add_mul_ediv_left _ _ (by omega)]
  have e5 : (2 : Int) ^ (64 - t) = 2 * 2 ^ (63 - t) := by rw [show 64 - t = (63 - t) + 1 by omega, Int.pow_succ, Int.mul_comm]
  rw [e5, show z * (2 * 2 ^ (63 - t)) = 2 * (z * 2 ^ (63 - t)) by grind]
  generalize z * 2 ^ (63 - t) = y
  generalize f q / 2 ^ t = x
  omega

/-- A bit of a limb, as the program takes it. -/
theorem limb_bit {x : Int} (h : 0 ≤ x ∧ x < B64) (t : Nat) : bits BinOp.and IntKind.u64 (x / 2 ^ t) 1 = x / 2 ^ t % 2 :=
  and_one _ (Int.ediv_nonneg h.1 (Int.le_of_lt (Int.pow_pos (by decide)))) (by
    have := Int.ediv_le_self (2 ^ t) h.1
    rw [B64_eq] at h
    omega)

/-- A product by 2^k has its bits moved up. -/
theorem bit_up {X : Int} (hX : 0 ≤ X) (k j : Nat) : X * 2 ^ k / 2 ^ j % 2 = if k ≤ j then X / 2 ^ (j - k) % 2 else 0 := by
  have p : ∀ n, (0 : Int) < 2 ^ n := fun n => Int.pow_pos (by decide)
  split
  · rename_i h
    rw [show (2 : Int) ^ j = 2 ^ k * 2 ^ (j - k) by rw [← Int.pow_add]; congr 1; omega, ← Int.ediv_ediv_of_nonneg (Int.le_of_lt (p k)), Int.mul_ediv_cancel _ (by have := p k; omega)]
  · rename_i h
    rw [show (2 : Int) ^ k = 2 ^ j * (2 * 2 ^ (k - j - 1)) by rw [← Int.pow_succ', ← Int.pow_add]; congr 1; omega, show X * (2 ^ j * (2 * 2 ^ (k - j - 1))) = (X * 2 ^ (k - j - 1) * 2) * 2 ^ j by grind, Int.mul_ediv_cancel _ (by have := p j; omega)]
    omega

theorem bit_above {f : Nat → Int} {n j : Nat} (rf : Rg f n) (h : n ≤ j / 64) : val f n / 2 ^ j % 2 = 0 := by
  have b := val_bd rf
  have e : val f n / 2 ^ j = 0 := by
    refine Int.ediv_eq_zero_of_lt b.1 (Int.lt_of_lt_of_le b.2 ?_)
    rw [← two_pow_64]
    have := Nat.pow_le_pow_right (show 0 < 2 by decide) (show 64 * n ≤ j by omega)
    exact_mod_cast this
  rw [e]; rfl

/-- 2^k, limb by limb. -/
def pt (k : Nat) : Nat → Int := up Z (k / 64) (2 ^ (k % 64))
theorem pt_rg (k n : Nat) : Rg (pt k) n := fun i _ => by
  unfold pt
  by_cases e : i = k / 64
  · subst e; rw [up_at]
    refine ⟨Int.le_of_lt (Int.pow_pos (by decide)), ?_⟩
    have := Nat.pow_lt_pow_right (show 1 < 2 by decide) (show k % 64 < 64 by omega)
    rw [B64_eq, show (2 : Int) ^ (k % 64) = ((2 ^ (k % 64) : Nat) : Int) by simp]
    omega
  · rw [up_ne e]; exact ⟨Int.le_refl _, B64_pos⟩
theorem val_pt (k : Nat) : val (pt k) (k / 64 + 1) = 2 ^ k := by
  rw [val]
  have e : val (pt k) (k / 64) = 0 := val_zero fun i hi => by unfold pt; rw [up_ne (by omega)]; rfl
  rw [e]
  unfold pt
  rw [up_at, ← two_pow_64, Int.zero_add, ← Int.pow_add]
  congr 1; omega
theorem shl_one (t : Nat) (h : t < 64) : IntKind.u64.wrap (2 ^ t) = 2 ^ t := by
  rw [IntKind.wrap_u64]
  refine Int.emod_eq_of_lt (Int.le_of_lt (Int.pow_pos (by decide))) ?_
  have := Nat.pow_lt_pow_right (show 1 < 2 by decide) h
  rw [show (2 : Int) ^ t = ((2 ^ t : Nat) : Int) by simp]
  omega

theorem tl_le_of {f g : Nat → Int} {n m : Nat} (rf : Rg f n) (rg : Rg g m) (h : val f n ≤ val g m) : tl f n ≤ m := by
  rcases Nat.lt_or_ge m (tl f n) with c | c
  · have := len_lt rg (rf.mono (tl_le f n)) (nm_tl f n) c
    rw [val_tl] at this
    omega
  · exact c

theorem shift_long (pa : Option Addr) (na ca : Nat) (fa : Nat → Int) (k : Nat) (w : World) (ha : At w pa na fa) (ra : Rg fa na) (l1a : na ≤ ca) (l2a : ca ≤ 9223372036854775807) (hk : k ≤ 255) (hl : 8 < na) :
    Calls Try.prog 3 #[.slice pa na ca, .int .u8 (k : Int)] w fun e w' => e = .returned (.bool true) ∧ Below w.heap.size w w' := by
  obtain ⟨i0, hi0, hz0, hz1, hz2⟩ := info_parts info64
  have q8 : i0.bytes ≤ 8 := by omega
  clear hz2
  go_enter Try.func3, Try.ntmps3
  have BW0 : Below w.heap.size w w := Below.refl _ _
  have K : Hid _ := begun_any w
  go_wp2_with fail
  refine Calls.mono K.out ?_
  rintro e W1 ⟨rfl, SB⟩
  clear K
  have BW1 := Below.up BW0 (Nat.le_refl _) SB
  replace ha := ha.below SB
  clear SB BW0
  go_wp2
  go_ret
  exact ⟨rfl, BW1⟩

set_option maxHeartbeats 1000000 in
theorem shift_core (pa : Option Addr) (na ca : Nat) (fa : Nat → Int) (k : Nat) (w : World) (ha : At w pa na fa) (ra : Rg fa na) (l1a : na ≤ ca) (l2a : ca ≤ 9223372036854775807) (hk : k ≤ 255) (ka : na ≤ 8) :
    Calls Try.prog 3 #[.slice pa na ca, .int .u8 (k : Int)] w fun e w' => e = .returned (.bool true) ∧ Below w.heap.size w w' := by
  obtain ⟨i0, hi0, hz0, hz1, hz2⟩ := info_parts info64
  have q8 : i0.bytes ≤ 8 := by omega
  clear hz2
  go_enter Try.func3, Try.ntmps3
  have BW0 : Below w.heap.size w w := Below.refl _ _
  have K : Hid _ := begun_any w
  go_wp2_with fail
  refine Calls.mono K.out ?_
  rintro e W1 ⟨rfl, SB⟩
  clear K
  have BW1 := Below.up BW0 (Nat.le_refl _) SB
  replace ha := ha.below SB
  clear SB BW0
  have hshl := shl_one (k % 64) (by omega)
  have KQ : Hid ((k : Int) / 64 + 1 = ((k / 64 + 1 : Nat) : Int)) := by show _ = _; omega
  have g1 : (k : Int) / 64 < (k : Int) / 64 + 1 := by omega
  go_wp2_with (at_make; refine wpList_make_lim _ .u64 rfl _ _ 22 24 rfl Try.underlying22 i0 hi0 hz0 hz1 q8 .i64 .i64 _ _ (k / 64 + 1) rfl rfl KQ.out KQ.out (by omega) ?_; intro X1 hb1 hs1 hm1; have hc9 := hm1 (k / 64) (by omega); obtain ⟨hc9, hz9⟩ := hc9; rw [Nat.zero_add] at hc9 hz9)
  have SB : Below W1.heap.size W1 (X1.setCell ⟨W1.heap.size, k / 64, none⟩ (.int .u64 (2 ^ (k % 64)))) := hb1.setCell (Nat.le_refl _) _
  have hp0 : Mut (X1.setCell ⟨W1.heap.size, k / 64, none⟩ (.int .u64 (2 ^ (k % 64)))) W1.heap.size 0 (k / 64 + 1) (pt k) := hm1.set0 (by omega) _
  generalize X1.setCell ⟨W1.heap.size, k / 64, none⟩ (.int .u64 (2 ^ (k % 64))) = W2 at *
  have hp := hp0.at
  clear hb1 hs1 hm1 hc9 hz9 hp0 hshl KQ
  have BW2 := Below.up BW1 (Nat.le_refl _) SB
  replace ha := ha.below SB
  clear SB BW1
  have r1p : Rg (pt k) (k / 64 + 1) := pt_rg k _
  have K : Hid _ := mul_any pa (some ⟨W1.heap.size, 0, none⟩) na (k / 64 + 1) ca (k / 64 + 1) fa (pt k) W2 l1a l2a (Nat.le_refl _) (by omega) ha hp ra r1p (by omega) (by omega)
  go_wp2_with fail
  refine Calls.mono K.out ?_
  rintro e W3 ⟨v, rfl, SB, bm, om, nm, cm, fm, rfl, lom, lm, l1m, lNm, mm, rm, nmm, vm⟩
  clear K
  have HVm : Hid _ := vm
  clear vm lom
  have l2m : cm ≤ 9223372036854775807 := by omega
  have hm := mm.at
  clear mm lm
  have BW3 := Below.up BW2 (Nat.le_refl _) SB
  replace ha := ha.below SB
  replace hp := hp.below SB
  clear SB BW2
  have vX := (val_bd ra).1
  have VM : Hid (val fm nm = val fa na * 2 ^ k) := by show _ = _; rw [HVm.out, val_pt]
  have nmb : nm ≤ 13 := by omega
  go_wp2
  go_loop [8] (fun i => ∃ j : Nat, j ≤ 64 * nm ∧ i = .int .i64 j) (fun i => 64 * nm - (intOf i).toNat)
  case atStart => exact ⟨0, Nat.zero_le _, rfl⟩
  case round =>
    obtain ⟨j, hj, rfl⟩ := hrel
    by_cases hlt : j < 64 * nm
    · obtain ⟨b1, o1, e1, hcm⟩ := hm (by omega)
      simp only [Option.some.injEq, Addr.mk.injEq, and_true] at e1
      obtain ⟨rfl, rfl⟩ := e1
      have hc1 := hcm (j / 64) (by omega)
      have hbm := limb_bit (rm (j / 64) (by omega)) (j % 64)
      rw [← bit_of rm hlt, VM.out, bit_up vX] at hbm
      have g2 : (j : Int) / 64 < (nm : Int) := by omega
      have g3 : (j : Int) < 64 * (nm : Int) := by omega
      clear hcm
      by_cases hkj : k ≤ j
      · rw [if_pos hkj] at hbm
        have g4 : (k : Int) ≤ (j : Int) := by omega
        by_cases hin : (j - k) / 64 < na
        · have g5 : ((j : Int) - (k : Int)) / 64 < (na : Int) := by omega
          obtain ⟨b2, o2, rfl, hca⟩ := ha (by omega)
          have hc2 := hca ((j - k) / 64) hin
          have hba := limb_bit (ra ((j - k) / 64) hin) ((j - k) % 64)
          rw [← bit_of ra (show j - k < 64 * na by omega)] at hba
          generalize val fa na / 2 ^ (j - k) % 2 = bb at *
          clear hca
          go_wp2
          go_round
          case rel => exact ⟨j + 1, by omega, by go_num⟩
          case measure => simp [intOf]; omega
        · have g5 : ¬ ((j : Int) - (k : Int)) / 64 < (na : Int) := by omega
          rw [bit_above ra (show na ≤ (j - k) / 64 by omega)] at hbm
          go_wp2
          go_round
          case rel => exact ⟨j + 1, by omega, by go_num⟩
          case measure => simp [intOf]; omega
      · rw [if_neg hkj] at hbm
        have g4 : ¬ (k : Int) ≤ (j : Int) := by omega
        go_wp2
        go_round
        case rel => exact ⟨j + 1, by omega, by go_num⟩
        case measure => simp [intOf]; omega
    · have g3 : ¬ (j : Int) < 64 * (nm : Int) := by omega
      have K : Hid _ := rest_any (some ⟨bm, om, none⟩) (some ⟨W1.heap.size, 0, none⟩) nm (k / 64 + 1) cm (k / 64 + 1) fm (pt k) W3 l1m l2m (Nat.le_refl _) (by omega) hm hp rm r1p (by omega) (by omega) (by rw [val_pt]; have h2 : (0 : Int) < 2 ^ k := Int.pow_pos (by decide); omega)
      go_wp2_with fail
      refine Calls.mono K.out ?_
      rintro e W4 ⟨v, rfl, SB, br, or, nr, cr, fr, rfl, lor, lr, l1r, lNr, mr, rr, nmr, vr⟩
      clear K
      have HVr : Hid _ := vr
      clear vr lor
      have l2r : cr ≤ 9223372036854775807 := by omega
      have hr := mr.at
      clear mr lr
      have BW4 := Below.up BW3 (Nat.le_refl _) SB
      replace ha := ha.below SB
      replace hp := hp.below SB
      replace hm := hm.below SB
      clear SB BW3
      have hr0 : nr = 0 := by
        have hv : val fr nr = 0 := by rw [HVr.out, val_pt, VM.out, Int.mul_emod_left]
        cases nr with
        | zero => rfl
        | succ t => have h1 := nm_lb rr nmr; have h2 := pw_pos t; omega
      subst hr0
      have h2k : (1 : Int) ≤ 2 ^ k := by have h9 : (0 : Int) < 2 ^ k := Int.pow_pos (by decide); omega
      have h3k := Int.mul_le_mul_of_nonneg_left h2k vX
      have htl : tl fa na ≤ nm := tl_le_of ra rm (by rw [VM.out]; omega)
      clear h2k h3k
      have K : Hid _ := lawCut_any pa na ca fa W4 l1a l2a ha
      go_wp2_with fail
      refine Calls.mono K.out ?_
      rintro e W5 ⟨rfl, hq⟩
      have SB : Below W4.heap.size W4 W5 := by rw [hq]; exact Below.refl _ _
      clear hq K
      have BW5 := Below.up BW4 (Nat.le_refl _) SB
      replace ha := ha.below SB
      replace hp := hp.below SB
      replace hm := hm.below SB
      replace hr := hr.below SB
      clear SB BW4
      have htl2 : 64 * ((tl fa na : Nat) : Int) ≤ 64 * (nm : Int) := by omega
      go_wp2
      go_ret
      exact ⟨rfl, BW5⟩

theorem shift_any (pa : Option Addr) (na ca : Nat) (fa : Nat → Int) (k : Nat) (w : World) (ha : At w pa na fa) (ra : Rg fa na) (l1a : na ≤ ca) (l2a : ca ≤ 9223372036854775807) (hk : k ≤ 255) :
    Calls Try.prog 3 #[.slice pa na ca, .int .u8 (k : Int)] w fun e w' => e = .returned (.bool true) ∧ Below w.heap.size w w' := by
  by_cases hl : 8 < na
  · exact shift_long pa na ca fa k w ha ra l1a l2a hk hl
  · exact shift_core pa na ca fa k w ha ra l1a l2a hk (by omega)
end Go.Proofs.Ytnijhifingdmlab
