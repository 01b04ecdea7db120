/- What the document's half answers: a number by two. -/
import Derived.Test.YtgdmjngajjoliaaDoorRD
namespace Go.Proofs.YtgdmjngajjoliaaDoor.fpn
open Go.RowKit
attribute [local go_sem ↓] Go.wp_at_zero Go.wp_at_succ
set_option linter.unusedVariables false

/-- Limb i of a half. -/
def hv (f : Nat → Int) (n i : Nat) : Int := f i / 2 + lm f n (i + 1) % 2 * 9223372036854775808

theorem hv_rg {f : Nat → Int} {n : Nat} (rf : Rg f n) : Rg (hv f n) n := fun i hi => by
  have a := rf i hi
  unfold hv
  rw [B64_eq] at *
  omega

theorem hv_sum {f : Nat → Int} {n : Nat} : ∀ m, m ≤ n → 0 < n → 2 * val (hv f n) m + f 0 % 2 = val f m + lm f n m % 2 * pw m
  | 0, _, h0 => by rw [lm_in h0]; simp [val, pw]
  | m + 1, hm, h0 => by
    have ih := hv_sum (f := f) (n := n) m (by omega) h0
    rw [lm_in (by omega)] at ih
    rw [val, val, pw]
    have e1 : f m = 2 * (f m / 2) + f m % 2 := by omega
    have e2 : hv f n m = f m / 2 + lm f n (m + 1) % 2 * 9223372036854775808 := rfl
    rw [e2]
    generalize lm f n (m + 1) % 2 = b at *
    generalize f m / 2 = x at *
    generalize f m % 2 = y at *
    rw [e1, B64_eq]
    generalize pw m = P at *
    grind

theorem hv_val {f : Nat → Int} {n : Nat} (h0 : 0 < n) : val (hv f n) n = val f n / 2 := by
  have := hv_sum (f := f) (n := n) n (Nat.le_refl _) h0
  rw [lm_out (Nat.le_refl n)] at this
  omega

theorem half_any (p : Option Addr) (n c : Nat) (f : Nat → Int) (w : World) (h0 : 0 < n) (hn : n ≤ 1000) (l1 : n ≤ c) (ha : At w p n f) (rf : Rg f n) :
    Calls Tryd.prog 52 #[.slice p n c] w fun e w' => ∃ b, e = .returned (.slice (some ⟨b, 0, none⟩) n n) ∧ Below w.heap.size w w' ∧ Mut w' b 0 n (hv f n) := by
  obtain ⟨i0, hi0, hz0, hz1, hz2⟩ := info_parts info64
  go_enter Tryd.func52, Tryd.ntmps52
  go_wp2_with (at_make; refine wpList_make_lim _ .u64 rfl _ _ 30 22 rfl Tryd.underlying30 i0 hi0 hz0 hz1 (by omega) .i64 .i64 _ _ n rfl rfl (by omega) (by omega) (by omega) ?_; intro w1 hb1 hs1 hm1)
  have HA : Hid _ := ha
  have RF : Hid _ := rf
  clear ha rf
  go_loopw [4] (fun i wr => ∃ k : Nat, k ≤ n ∧ i = .int .i64 k ∧ Below w.heap.size w wr ∧ Mut wr w.heap.size 0 n (mix (hv f n) Z k)) (fun i _ => n - (intOf i).toNat)
  case atStart => exact ⟨0, Nat.zero_le _, rfl, hb1, hm1.congr fun j _ => (mix_zero _ _ _).symm⟩
  case round =>
    obtain ⟨i, hi, rfl, hbel, hm⟩ := hrel
    clear hb1 hs1 hm1
    by_cases hlt : i < n
    · obtain ⟨b, off, rfl, hcell⟩ := (AtK.below HA.out hbel) (by omega)
      have hc1 := hcell i hlt
      obtain ⟨hc0, hz⟩ := hm i hlt
      rw [Nat.zero_add] at hc0 hz
      have kl := refLimb_any (some ⟨b, off, none⟩) n c f (i + 1) wr.drew (by omega) (by omega) (AtK.below HA.out hbel.drew)
      rw [show ((i + 1 : Nat) : Int) = (i : Int) + 1 by omega] at kl
      have KL : Hid _ := kl
      have rl := lm_rg RF.out (i + 2) (i + 1) (by omega)
      have ri := RF.out i hlt
      have HV : Hid (IntKind.u64.wrap (f i / 2 + IntKind.u64.wrap (lm f n (i + 1) * 9223372036854775808)) = hv f n i) := by
        show _ = _
        rw [IntKind.wrap_u64, IntKind.wrap_u64]
        unfold hv
        rw [B64_eq] at *
        omega
      have HM : Hid _ := hm
      have HB : Hid _ := hbel
      have i1 : (0 : Int) ≤ (i : Int) := by omega
      have i2 : (i : Int) < (n : Int) := by omega
      have i3 : IntKind.i64.wrap ((i : Int) + 1) = (i : Int) + 1 := by rw [IntKind.wrap_i64]; omega
      clear hcell hm hbel kl rl ri
      generalize lm f n (i + 1) = z at *
      go_wp2_with fail
      go_region_with (go_at_call 63; refine Calls.mono KL.out ?_; rintro e w' ⟨rfl, rfl⟩)
      all_goals
        rw [HV.out]
        go_wp2
        go_roundw
        case rel => exact ⟨i + 1, by omega, by go_num, (Below.setCell HB.out (by exact Nat.le_refl _) _).drew, (MutK.step0 HM.out hlt).drew⟩
        case measure => simp [intOf]; omega
    · have e : n = i := by omega
      subst e
      have HM : Hid _ := hm
      have HB : Hid _ := hbel
      clear hm hbel
      go_wp2
      go_ret
      exact ⟨_, rfl, HB.out, MutK.congr HM.out fun j hj => mix_lo hj⟩

theorem greatP_at (f : Nat → Int) (w : World) (rf : Rg f 6) (o : Int) (t : Bool) (ho : ord (val f 6) (RI / 2) = o) (ht : decide (0 < o) = t) : Calls Tryd.prog 23 #[.agg #[.int .u64 (f 0), .int .u64 (f 1), .int .u64 (f 2), .int .u64 (f 3), .int .u64 (f 4), .int .u64 (f 5)]] w fun e w' => e = .returned (.bool t) ∧ Below w.heap.size w w' := by
  have hA := (mut_four w f 24).at
  have b1 := below_one w (.cells #[.int .u64 (f 0), .int .u64 (f 1), .int .u64 (f 2), .int .u64 (f 3), .int .u64 (f 4), .int .u64 (f 5)] 24)
  have z1 := World.size_alloc w (.cells #[.int .u64 (f 0), .int .u64 (f 1), .int .u64 (f 2), .int .u64 (f 3), .int .u64 (f 4), .int .u64 (f 5)] 24)
  have RF : Hid _ := rf
  have HO : Hid _ := ho
  have HT : Hid _ := ht
  clear rf ho ht
  go_enter Tryd.func23, Tryd.ntmps23
  go_wp2_with fail
  generalize w.alloc (.cells #[.int .u64 (f 0), .int .u64 (f 1), .int .u64 (f 2), .int .u64 (f 3), .int .u64 (f 4), .int .u64 (f 5)] 24) = W at *
  have HA : Hid _ := hA
  have B1 : Hid _ := b1
  clear hA b1 z1
  go_region_with (first
    | (go_at_call 26; refine Calls.mono (refR_any _) ?_; rintro e w2 ⟨rfl, b2, -, m2⟩; have HB2 : Hid (Below W.heap.size W w2) := (by first | exact b2 | exact below_drew b2); have AM2 : Hid (At w2 (some ⟨W.heap.size, 0, none⟩) 6 rL) := m2.at; clear b2 m2)
    | (go_at_call 52; refine Calls.mono (half_any (some ⟨W.heap.size, 0, none⟩) 6 6 rL _ (by omega) (by omega) (by omega) AM2.out rL_rg) ?_; rintro e w3 ⟨b, rfl, b3, m3⟩; have HB3 : Hid _ := Below.up HB2.out (Nat.le_refl _) b3; have AM3 : Hid _ := m3.at; clear b3 m3)
    | (go_at_call 24; have kc := refCompare_any (some ⟨w.heap.size, 0, none⟩) (some ⟨b, 0, none⟩) 6 6 6 6 f (hv rL 6) w3 (by omega) (by omega) (by omega) (by omega) (AtK.below HA.out HB3.out) AM3.out RF.out (hv_rg rL_rg) (by omega) (by omega); rw [hv_val (by omega), rL_val, HO.out] at kc; refine Calls.mono kc ?_; rintro e w4 ⟨rfl, b4⟩; have HB4 : Hid _ := Below.up HB3.out (Nat.le_refl _) b4; clear b4 kc))
  all_goals
    go_wp2
    go_ret
    exact ⟨by rw [← HT.out]; rfl, Below.up B1.out (Nat.le_refl _) HB4.out⟩

theorem greatP_any (f : Nat → Int) (w : World) (rf : Rg f 6) : Calls Tryd.prog 23 #[.agg #[.int .u64 (f 0), .int .u64 (f 1), .int .u64 (f 2), .int .u64 (f 3), .int .u64 (f 4), .int .u64 (f 5)]] w fun e w' => e = .returned (.bool (decide (RI / 2 < val f 6))) ∧ Below w.heap.size w w' := by
  rcases Int.lt_trichotomy (val f 6) (RI / 2) with h | h | h
  · rw [decide_eq_false (by omega)]; exact greatP_at f w rf (-1) false (ord_lt h) rfl
  · rw [decide_eq_false (by omega)]; exact greatP_at f w rf 0 false (ord_eq h) rfl
  · rw [decide_eq_true h]; exact greatP_at f w rf 1 true (ord_gt h) rfl
end Go.Proofs.YtgdmjngajjoliaaDoor.fpn
