/- What limb.lessen and double do, for every call. -/
import Derived.Test.YtfbdbkookbmdgaaDoorWA
import Derived.Deep.RegionWith
import Derived.Deep.DrawnRows
namespace Go.Proofs.YtfbdbkookbmdgaaDoor
open Go.RowKit
attribute [local go_sem ↓] Go.wp_at_zero Go.wp_at_succ

theorem sub64_call (x y b : Int) (hx : 0 ≤ x ∧ x < B64) (hy : 0 ≤ y ∧ y < B64) (hb : 0 ≤ b ∧ b ≤ 1) (w : World) :
    (callFunc 46 #[.int .u64 x, .int .u64 y, .int .u64 b]).run Tryd.prog w = .ok (.value (.tuple #[.int .u64 ((x + B64 - y - b) % B64), .int .u64 (if x < y + b then 1 else 0)])) w := by
  rw [run_callFunc_extern Tryd.func46 (by kernel_rfl) (by kernel_rfl) (by kernel_rfl) (e := sub64Entry) (by kernel_rfl), run_sub64 x y b hx hy hb]
  rfl

theorem add64_call (x y c : Int) (hx : 0 ≤ x) (hy : 0 ≤ y) (hc : 0 ≤ c ∧ c ≤ 1) (w : World) :
    (callFunc 42 #[.int .u64 x, .int .u64 y, .int .u64 c]).run Tryd.prog w = .ok (.value (.tuple #[.int .u64 ((x + y + c) % B64), .int .u64 ((x + y + c) / B64)])) w := by
  rw [run_callFunc_extern Tryd.func42 (by kernel_rfl) (by kernel_rfl) (by kernel_rfl) (e := add64Entry) (by kernel_rfl), run_add64 x y c hx hy hc.1 hc.2]
  rfl

def lessenJ (b off n cap : Nat) (f : Nat → Int) (pb : Option Addr) (nb cb : Nat) (g : Nat → Int) (w : World) : Act → World → Prop := fun a' w' => ∃ (i : Nat) (u6 u7 u8 u9 u10 u11 u12 u13 u14 u15 u16 u17 u18 u19 u20 u21 u22 u23 u24 u25 u26 : Value), a' = { tmps := #[.slice (some ⟨b, off, none⟩) n cap, .slice pb nb cb, undef, undef, .int .u64 (bw f g i), .int .i64 i, u6, u7, u8, u9, u10, u11, u12, u13, u14, u15, u16, u17, u18, u19, u20, u21, u22, u23, u24, u25, u26], defers := [] } ∧ i ≤ n ∧ Upd b off (off + n) w w' ∧ Mut w' b off n (mix (df f g) f i)

theorem lessen_any (b off n cap : Nat) (f : Nat → Int) (pb : Option Addr) (nb cb : Nat) (g : Nat → Int) (w : World) (hn : n ≤ 17592186044416) (hnb : nb ≤ 17592186044416) (hm : Mut w b off n f) (hb : At w pb nb g)
    (hne : 0 < nb → ∀ b' o', pb = some ⟨b', o', none⟩ → b' ≠ b) (rf : Rg f n) (rg : Rg g nb) :
    Calls Tryd.prog 77 #[.slice (some ⟨b, off, none⟩) n cap, .slice pb nb cb] w fun e w' => e = .returned (.tuple #[]) ∧ Upd b off (off + n) w w' ∧ Mut w' b off n (df f (lm g nb)) := by
  have rl : Rg (lm g nb) n := lm_rg rg n
  go_enter Tryd.func77, Tryd.ntmps77
  go_wp2
  refine wp_scope_goto 0 (lessenJ b off n cap f pb nb cb (lm g nb) w) (fun a' _ => n - slot 5 a') rfl ?_ ?_
  · rintro a' W ⟨i, u6, u7, u8, u9, u10, u11, u12, u13, u14, u15, u16, u17, u18, u19, u20, u21, u22, u23, u24, u25, u26, rfl, hi, hu, hM⟩
    by_cases hlt : i < n
    · have hbW : At W pb nb g := hb.upd hu hne
      obtain ⟨hc0, hz⟩ := hM i hlt
      rw [mix_hi (Nat.le_refl i)] at hc0
      have hL := limbAt_any pb nb cb g i
      have hs := sub64_call (f i) (lm g nb i) (bw f (lm g nb) i) (rf i hlt) (rl i hlt) (bw_bd _ _ _)
      have HL := show Hid _ from hL
      have e1 : (f i + B64 - lm g nb i - bw f (lm g nb) i) % B64 = df f (lm g nb) i := rfl
      have e2 : (if f i < lm g nb i + bw f (lm g nb) i then (1 : Int) else 0) = bw f (lm g nb) (i + 1) := rfl
      rw [e1, e2] at hs
      clear hL e1 e2
      go_wp2
      go_region_with ((go_at_call 71; refine (HL.out _ (by omega) (by omega) ?_).mono ?_; (exact hbW); rintro e w' ⟨rfl, rfl⟩))
      all_goals
        go_wp2
        go_step3
        refine ⟨rfl, ⟨i + 1, _, _, _, _, _, _, _, _, _, _, _, _, _, _, _, _, _, _, _, _, _, rfl, by omega, (hu.setCell (by omega) (by omega) _).drew, (hM.step hlt).drew⟩, ?_⟩
        simp [slot, intOf]; omega
    · have e : i = n := by omega
      subst e
      have HM := show Hid _ from hM
      have HU := show Hid _ from hu
      clear hM hu
      go_wp2
      simp only [Exit.jump]
      go_end0
      exact ⟨rfl, HU.out, MutK.congr HM.out fun j hj => mix_lo hj⟩
  · intro hr
    go_wp2
    go_step3
    rename_i K hK
    exact hK _ _ (hr _ _ ⟨0, _, _, _, _, _, _, _, _, _, _, _, _, _, _, _, _, _, _, _, _, _, rfl, Nat.zero_le _, Upd.refl _ _ _ _, hm.congr (fun j _ => (mix_zero _ _ _).symm)⟩)

def doubleJ (b off n cap : Nat) (f : Nat → Int) (c : Int) (w : World) : Act → World → Prop := fun a' w' => ∃ (i : Nat) (u5 u6 u7 u8 u9 u10 u11 u12 u13 u14 u15 u16 u17 u18 u19 u20 u21 u22 u23 u24 u25 u26 : Value), a' = { tmps := #[.slice (some ⟨b, off, none⟩) n cap, .int .u64 (cy f f c i), undef, undef, .int .i64 i, u5, u6, u7, u8, u9, u10, u11, u12, u13, u14, u15, u16, u17, u18, u19, u20, u21, u22, u23, u24, u25, u26], defers := [] } ∧ i ≤ n ∧ Upd b off (off + n) w w' ∧ Mut w' b off n (mix (sm f f c) f i)

theorem double_any (b off n cap : Nat) (f : Nat → Int) (c : Int) (w : World) (hn : n ≤ 17592186044416) (hm : Mut w b off n f) (rf : Rg f n) (hc : 0 ≤ c ∧ c ≤ 1) :
    Calls Tryd.prog 75 #[.slice (some ⟨b, off, none⟩) n cap, .int .u64 c] w fun e w' => e = .returned (.tuple #[]) ∧ Upd b off (off + n) w w' ∧ Mut w' b off n (sm f f c) := by
  go_enter Tryd.func75, Tryd.ntmps75
  go_wp2
  refine wp_scope_goto 0 (doubleJ b off n cap f c w) (fun a' _ => n - slot 4 a') rfl ?_ ?_
  · rintro a' W ⟨i, u5, u6, u7, u8, u9, u10, u11, u12, u13, u14, u15, u16, u17, u18, u19, u20, u21, u22, u23, u24, u25, u26, rfl, hi, hu, hM⟩
    by_cases hlt : i < n
    · obtain ⟨hc0, hz⟩ := hM i hlt
      rw [mix_hi (Nat.le_refl i)] at hc0
      have hs := add64_call (f i) (f i) (cy f f c i) (rf i hlt).1 (rf i hlt).1 (cy_bd (rf.mono hi) (rf.mono hi) hc)
      have e1 : (f i + f i + cy f f c i) % B64 = sm f f c i := rfl
      have e2 : (f i + f i + cy f f c i) / B64 = cy f f c (i + 1) := rfl
      rw [e1, e2] at hs
      clear e1 e2
      go_wp2
      go_region_with (fail)
      all_goals
        go_wp2
        go_step3
        refine ⟨rfl, ⟨i + 1, _, _, _, _, _, _, _, _, _, _, _, _, _, _, _, _, _, _, _, _, _, _, rfl, by omega, (hu.setCell (by omega) (by omega) _).drew, (hM.step hlt).drew⟩, ?_⟩
        simp [slot, intOf]; omega
    · have e : i = n := by omega
      subst e
      have HM := show Hid _ from hM
      have HU := show Hid _ from hu
      clear hM hu
      go_wp2
      simp only [Exit.jump]
      go_end0
      exact ⟨rfl, HU.out, MutK.congr HM.out fun j hj => mix_lo hj⟩
  · intro hr
    go_wp2
    go_step3
    rename_i K hK
    exact hK _ _ (hr _ _ ⟨0, _, _, _, _, _, _, _, _, _, _, _, _, _, _, _, _, _, _, _, _, _, _, rfl, Nat.zero_le _, Upd.refl _ _ _ _, hm.congr (fun j _ => (mix_zero _ _ _).symm)⟩)
end Go.Proofs.YtfbdbkookbmdgaaDoor
