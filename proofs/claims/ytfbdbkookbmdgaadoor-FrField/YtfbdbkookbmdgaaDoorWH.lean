/- What limb.Take answers, for every call. -/
import Derived.Test.YtfbdbkookbmdgaaDoorWG
namespace Go.Proofs.YtfbdbkookbmdgaaDoor
open Go.RowKit
attribute [local go_sem ↓] Go.wp_at_zero Go.wp_at_succ

/-- The first k bytes of a limb, the least first. -/
def v8 (h : Nat → Int) : Nat → Int
  | 0 => 0
  | k + 1 => v8 h k + h k * 2 ^ (8 * k)

theorem v8_bd {h : Nat → Int} {k : Nat} (hh : ∀ t, t < k → 0 ≤ h t ∧ h t < 256) : 0 ≤ v8 h k ∧ v8 h k < 2 ^ (8 * k) := by
  induction k with
  | zero => exact ⟨Int.le_refl _, by simp [v8]⟩
  | succ k ih =>
    have a := ih (fun t ht => hh t (by omega))
    have b := hh k (by omega)
    have p : (0 : Int) < 2 ^ (8 * k) := Int.pow_pos (by decide)
    have m0 := Int.mul_nonneg b.1 (Int.le_of_lt p)
    have m1 := mul_le_of (show h k ≤ 255 by omega) (Int.le_of_lt p)
    rw [v8, show 8 * (k + 1) = 8 * k + 8 by omega, Int.pow_add]
    show _ ∧ _ < 2 ^ (8 * k) * 256
    omega

/-- Limb q of the number whose bytes are g, the highest first, when i bytes have been taken from the back. -/
def pl (g : Nat → Int) (n i q : Nat) : Int := v8 (fun t => g (n - 1 - (8 * q + t))) (min 8 (i - 8 * q))

theorem pl_rg {g : Nat → Int} {n i : Nat} (hi : i ≤ n) (hg : ∀ j, j < n → 0 ≤ g j ∧ g j < 256) (m : Nat) : Rg (pl g n i) m := fun q _ => by
  have a := v8_bd (h := fun t => g (n - 1 - (8 * q + t))) (k := min 8 (i - 8 * q)) (fun t ht => hg _ (by omega))
  refine ⟨a.1, Int.lt_of_lt_of_le a.2 ?_⟩
  have : (2 : Int) ^ (8 * min 8 (i - 8 * q)) ≤ 2 ^ 64 := by
    have := Nat.pow_le_pow_right (show 0 < 2 by decide) (show 8 * min 8 (i - 8 * q) ≤ 64 by omega)
    exact_mod_cast this
  exact this

theorem pl_other {g : Nat → Int} {n i q : Nat} (h : q ≠ i / 8) : pl g n (i + 1) q = pl g n i q := by
  unfold pl
  rw [show min 8 (i + 1 - 8 * q) = min 8 (i - 8 * q) by omega]

theorem pl_at (g : Nat → Int) (n i : Nat) : pl g n (i + 1) (i / 8) = pl g n i (i / 8) + g (n - 1 - i) * 2 ^ (8 * (i % 8)) := by
  unfold pl
  rw [show min 8 (i + 1 - 8 * (i / 8)) = i % 8 + 1 by omega, show min 8 (i - 8 * (i / 8)) = i % 8 by omega, v8, show 8 * (i / 8) + i % 8 = i by omega]

theorem pl_low {g : Nat → Int} {n i : Nat} (hi : i ≤ n) (hg : ∀ j, j < n → 0 ≤ g j ∧ g j < 256) : 0 ≤ pl g n i (i / 8) ∧ pl g n i (i / 8) < 2 ^ (8 * (i % 8)) := by
  have a := v8_bd (h := fun t => g (n - 1 - (8 * (i / 8) + t))) (k := i % 8) (fun t ht => hg _ (by omega))
  unfold pl
  rw [show min 8 (i - 8 * (i / 8)) = i % 8 by omega]
  exact a

theorem or_step (a x : Int) (s : Nat) (hs : s ≤ 56) (ha : 0 ≤ a ∧ a < 2 ^ s) (hx : 0 ≤ x ∧ x < 256) :
    bits BinOp.or IntKind.u64 a (IntKind.u64.wrap (IntKind.u64.wrap x * 2 ^ s)) = a + x * 2 ^ s := by
  obtain ⟨A, rfl⟩ := Int.eq_ofNat_of_zero_le ha.1
  obtain ⟨X, rfl⟩ := Int.eq_ofNat_of_zero_le hx.1
  have hA : A < 2 ^ s := by have := ha.2; exact_mod_cast this
  have hX : X < 256 := by omega
  have hp : 2 ^ s ≤ 2 ^ 56 := Nat.pow_le_pow_right (by decide) hs
  have hm : X * 2 ^ s ≤ 255 * 2 ^ 56 := Nat.mul_le_mul (by omega) hp
  have w1 : IntKind.u64.wrap (X : Int) = (X : Int) := by rw [IntKind.wrap_u64]; omega
  have w2 : IntKind.u64.wrap ((X : Int) * 2 ^ s) = ((X * 2 ^ s : Nat) : Int) := by
    rw [IntKind.wrap_u64, show (X : Int) * 2 ^ s = ((X * 2 ^ s : Nat) : Int) by simp]
    omega
  rw [w1, w2, bits_or_u64_nat A (X * 2 ^ s) (by omega) (by omega)]
  rw [show X * 2 ^ s = 2 ^ s * X by rw [Nat.mul_comm], Nat.or_comm, ← Nat.two_pow_add_eq_or_of_lt hA]
  simp [Int.add_comm, Int.mul_comm]

def takeJ (p : Option Addr) (n cap L : Nat) (g : Nat → Int) (w : World) : Act → World → Prop := fun a' w' => ∃ (i : Nat) (u5 u6 u7 u8 u9 u10 u11 u12 u13 u14 u15 u16 u17 u18 u19 u20 u21 u22 u23 u24 u25 u26 u27 u28 u29 u30 u31 u32 u33 u34 u35 u36 u37 u38 : Value),
  a' = { tmps := #[.slice p n cap, undef, .slice none 0 0, .slice (some ⟨w.heap.size, 0, none⟩) L L, .int .i64 i, u5, u6, u7, u8, u9, u10, u11, u12, u13, u14, u15, u16, u17, u18, u19, u20, u21, u22, u23, u24, u25, u26, u27, u28, u29, u30, u31, u32, u33, u34, u35, u36, u37, u38], defers := [] } ∧
  i ≤ n ∧ Below w.heap.size w w' ∧ w'.heap.size = w.heap.size + 1 ∧ Mut w' w.heap.size 0 L (pl g n i)

theorem take_any (p : Option Addr) (n cap : Nat) (g : Nat → Int) (w : World) (_hn : n ≤ cap) (hc : AtK .u8 w p n g) (hg : ∀ j, j < n → 0 ≤ g j ∧ g j < 256) (hN : n ≤ 1000000) :
    Calls Tryd.prog 61 #[.slice p n cap] w fun e w' => ∃ v, e = .returned v ∧ New w w' v ((n + 7) / 8) (val (pl g n n) ((n + 7) / 8)) := by
  obtain ⟨i0, hi0, hz0, hz1, hz2⟩ := info_parts info64
  obtain ⟨L, hL⟩ : ∃ L, L = (n + 7) / 8 := ⟨_, rfl⟩
  rw [← hL]
  have l1 : n ≤ 8 * L := by omega
  have l2 : 8 * L ≤ n + 7 := by omega
  have HL : Hid _ := hL
  clear hL
  go_enter Tryd.func61, Tryd.ntmps61
  go_wp2_with fail
  refine wp_scope_goto 0 (takeJ p n cap L g w) (fun a' _ => n - slot 4 a') rfl ?_ ?_
  · rintro a' W ⟨i, u5, u6, u7, u8, u9, u10, u11, u12, u13, u14, u15, u16, u17, u18, u19, u20, u21, u22, u23, u24, u25, u26, u27, u28, u29, u30, u31, u32, u33, u34, u35, u36, u37, u38, rfl, hi, hbel, hs, hm⟩
    by_cases hlt : i < n
    · obtain ⟨b, off, rfl, hcell⟩ := (hc.below hbel) (by omega)
      have hc1 := hcell (n - 1 - i) (by omega)
      obtain ⟨hc0, hz⟩ := hm (i / 8) (by omega)
      rw [Nat.zero_add] at hc0 hz
      have HM : Hid _ := hm
      have HB : Hid _ := hbel
      have HS : Hid _ := hs
      clear hcell hm hbel hs hc
      have i1 : (0 : Int) ≤ (i : Int) := by omega
      have i2 : (i : Int) / 8 < (L : Int) := by omega
      have i3 : (0 : Int) ≤ (n : Int) - 1 - (i : Int) := by omega
      have i4 : (n : Int) - 1 - (i : Int) < (n : Int) := by omega
      have i5 : (0 : Int) ≤ 8 * ((i : Int) % 8) := by omega
      have i6 : 8 * ((i : Int) % 8) < 64 := by omega
      go_wp2
      go_region
      rw [or_step (pl g n i (i / 8)) (g (n - 1 - i)) (8 * (i % 8)) (by omega) (pl_low hi hg) (hg _ (by omega)), ← pl_at g n i]
      go_wp2
      go_step3
      refine ⟨rfl, ⟨i + 1, _, _, _, _, _, _, _, _, _, _, _, _, _, _, _, _, _, _, _, _, _, _, _, _, _, _, _, _, _, _, _, _, _, _, rfl, by omega, (Below.setCell HB.out (by exact Nat.le_refl _) _).drew, by rw [World.size_drew, World.size_setCell]; exact HS.out, ?_⟩, ?_⟩
      · refine (MutK.congr (MutK.set0 (i := i / 8) HM.out (by omega) _) fun j _ => ?_).drew
        by_cases e : j = i / 8
        · subst e; rw [up_at]
        · rw [up_ne e, pl_other e]
      · simp [slot, intOf]; omega
    · have e : i = n := by omega
      subst e
      have r := pl_rg (Nat.le_refl i) hg L
      have HR : Hid _ := trim_any (some ⟨w.heap.size, 0, none⟩) L L (pl g i i) W (Nat.le_refl _) (by omega) hm.at
      have HM : Hid _ := hm
      have HB : Hid _ := hbel
      have HS : Hid _ := hs
      clear hm hbel hs hc
      go_wp2_with fail
      refine Calls.mono HR.out ?_
      rintro e w' ⟨rfl, rfl⟩
      go_wp2
      simp only [Exit.jump]
      go_ret
      exact ⟨_, rfl, HB.out, w.heap.size, 0, tl (pl g i i) L, L, _, rfl, Nat.le_refl _, by rw [HS.out]; omega, tl_le _ _, Nat.le_refl _, MutK.mono HM.out (tl_le _ _), Rg.mono r (tl_le _ _), nm_tl _ _, val_tl _ _⟩
  · intro hr
    go_wp2_with (at_make; refine wpList_make_lim _ .u64 rfl _ _ 30 22 rfl Tryd.underlying30 i0 hi0 hz0 hz1 (by omega) .i64 .i64 _ _ L rfl rfl (by omega) (by omega) (by omega) ?_; intro w1 hb1 hs1 hm1)
    go_step3
    rename_i K hK
    refine hK _ _ (hr _ _ ⟨0, _, _, _, _, _, _, _, _, _, _, _, _, _, _, _, _, _, _, _, _, _, _, _, _, _, _, _, _, _, _, _, _, _, _, rfl, by omega, hb1, hs1, hm1.congr fun j _ => ?_⟩)
    unfold pl
    rw [show min 8 (0 - 8 * j) = 0 by omega]; rfl
end Go.Proofs.YtfbdbkookbmdgaaDoor
