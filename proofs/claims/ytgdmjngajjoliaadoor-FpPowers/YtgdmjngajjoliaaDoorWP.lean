/- What the document's Take answers. -/
import Derived.Test.YtgdmjngajjoliaaDoorWN
namespace Go.Proofs.YtgdmjngajjoliaaDoor
open Go.RowKit
set_option linter.unusedVariables false
attribute [local go_sem ↓] Go.wp_at_zero Go.wp_at_succ

theorem add_step (a x : Int) (s : Nat) (hs : s ≤ 56) (ha : 0 ≤ a ∧ a < 2 ^ s) (hx : 0 ≤ x ∧ x < 256) :
    IntKind.u64.wrap (a + IntKind.u64.wrap (IntKind.u64.wrap x * 2 ^ s)) = a + x * 2 ^ s := by
  obtain ⟨A, rfl⟩ := Int.eq_ofNat_of_zero_le ha.1
  obtain ⟨X, rfl⟩ := Int.eq_ofNat_of_zero_le hx.1
  have hA : A < 2 ^ s := by have := ha.2; exact_mod_cast this
  have hX : X < 256 := by omega
  have hp : 2 ^ s ≤ 2 ^ 56 := Nat.pow_le_pow_right (by decide) hs
  have hm : X * 2 ^ s ≤ 255 * 2 ^ 56 := Nat.mul_le_mul (by omega) hp
  have w1 : IntKind.u64.wrap (X : Int) = (X : Int) := by rw [IntKind.wrap_u64]; omega
  have w2 : IntKind.u64.wrap ((X : Int) * 2 ^ s) = ((X * 2 ^ s : Nat) : Int) := by
    rw [IntKind.wrap_u64, show (X : Int) * 2 ^ s = ((X * 2 ^ s : Nat) : Int) by simp]
    omega
  rw [w1, w2, IntKind.wrap_u64, show (X : Int) * 2 ^ s = ((X * 2 ^ s : Nat) : Int) by simp]
  omega

theorem refTake_any (p : Option Addr) (n cap : Nat) (g : Nat → Int) (w : World) (hc : AtK .u8 w p n g) (hg : ∀ j, j < n → 0 ≤ g j ∧ g j < 256) (hN : n ≤ 100000) :
    Calls Tryd.prog 59 #[.slice p n cap] w fun e w' => ∃ v, e = .returned v ∧ NewP w w' v ((n + 7) / 8) (val (pl g n n) ((n + 7) / 8)) := by
  obtain ⟨i0, hi0, hz0, hz1, hz2⟩ := info_parts info64
  obtain ⟨L, hL⟩ : ∃ L, L = (n + 7) / 8 := ⟨_, rfl⟩
  rw [← hL]
  have l1 : n ≤ 8 * L := by omega
  have l2 : 8 * L ≤ n + 7 := by omega
  have HL : Hid _ := hL
  clear hL
  go_enter Tryd.func59, Tryd.ntmps59
  go_wp2_with (at_make; refine wpList_make_lim _ .u64 rfl _ _ 30 22 rfl Tryd.underlying30 i0 hi0 hz0 hz1 (by omega) .i64 .i64 _ _ L rfl rfl (by omega) (by omega) (by omega) ?_; intro w1 hb1 hs1 hm1)
  go_loopw [4] (fun i wr => ∃ k : Nat, k ≤ n ∧ i = .int .i64 k ∧ Below w.heap.size w wr ∧ Mut wr w.heap.size 0 L (pl g n k)) (fun i _ => n - (intOf i).toNat)
  case atStart =>
    refine ⟨0, Nat.zero_le _, rfl, hb1, hm1.congr fun j _ => ?_⟩
    unfold pl
    rw [show min 8 (0 - 8 * j) = 0 by omega]; rfl
  case round =>
    obtain ⟨i, hi, rfl, hbel, hm⟩ := hrel
    clear hb1 hs1 hm1
    by_cases hlt : i < n
    · obtain ⟨b, off, rfl, hcell⟩ := (hc.below hbel) (by omega)
      have hc1 := hcell (n - 1 - i) (by omega)
      obtain ⟨hc0, hz⟩ := hm (i / 8) (by omega)
      rw [Nat.zero_add] at hc0 hz
      have HM : Hid _ := hm
      have HB : Hid _ := hbel
      clear hcell hm hbel hc
      have i1 : (0 : Int) ≤ (i : Int) := by omega
      have i2 : (i : Int) / 8 < (L : Int) := by omega
      have i3 : (0 : Int) ≤ (n : Int) - 1 - (i : Int) := by omega
      have i4 : (n : Int) - 1 - (i : Int) < (n : Int) := by omega
      have i5 : (0 : Int) ≤ 8 * ((i : Int) % 8) := by omega
      have i6 : 8 * ((i : Int) % 8) < 64 := by omega
      go_wp2
      go_region
      rw [add_step (pl g n i (i / 8)) (g (n - 1 - i)) (8 * (i % 8)) (by omega) (pl_low hi hg) (hg _ (by omega)), ← pl_at g n i]
      go_wp2
      go_roundw
      case rel =>
        refine ⟨i + 1, by omega, by go_num, (Below.setCell HB.out (by exact Nat.le_refl _) _).drew, ?_⟩
        refine (MutK.congr (MutK.set0 (i := i / 8) HM.out (by omega) _) fun j _ => ?_).drew
        by_cases e : j = i / 8
        · subst e; rw [up_at]
        · rw [up_ne e, pl_other e]
      case measure => simp [intOf]; omega
    · have e : n = i := by omega
      subst e
      have r := pl_rg (Nat.le_refl n) hg L
      have HR : Hid _ := cut_own (some ⟨w.heap.size, 0, none⟩) L L (pl g n n) wr (Nat.le_refl _) (by omega) hm.at (by omega)
      have HB : Hid _ := hbel
      clear hm hbel hc
      go_wp2_with fail
      refine Calls.mono HR.out ?_
      rintro e w3 ⟨v3, rfl, hb3, ho3⟩
      have HO : Hid _ := ho3
      have HB3 : Hid _ := Below.up HB.out (Nat.le_refl _) hb3
      clear ho3 hb3
      go_wp2
      go_ret
      exact ⟨_, rfl, Own.newP (Own.base HO.out (Below.size HB.out)) HB3.out (tl_le _ _) (Rg.mono r (tl_le _ _)) (nm_tl _ _) (val_tl _ _)⟩
end Go.Proofs.YtgdmjngajjoliaaDoor
