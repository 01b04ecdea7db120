/- What the document's below and sub answer: numbers of as many limbs. -/
import Derived.Test.YtgdmjngajjoliaaDoorWN
namespace Go.Proofs.YtgdmjngajjoliaaDoor
open Go.RowKit
attribute [local go_sem ↓] Go.wp_at_zero Go.wp_at_succ
set_option linter.unusedVariables false

theorem below_any (pa pm : Option Addr) (na n ca cm : Nat) (f g : Nat → Int) (w : World) (hle : n ≤ na) (hna : na ≤ 1000) (ha : At w pa na f) (hm : At w pm n g) (rf : Rg f n) (rg : Rg g n) :
    Calls Tryd.prog 39 #[.slice pa na ca, .slice pm n cm] w fun e w' => e = .returned (.bool (decide (val f n < val g n))) ∧ ∃ q, w' = w.drewN q := by
  go_enter Tryd.func39, Tryd.ntmps39
  go_wp2
  go_loopw [5] (fun i wr => ∃ j q : Nat, j ≤ n ∧ i = .int .i64 ((j : Int) - 1) ∧ (∀ t, j ≤ t → t < n → f t = g t) ∧ wr = w.drewN q) (fun i _ => (intOf i + 1).toNat)
  case atStart => exact ⟨n, 0, Nat.le_refl _, rfl, fun t h1 h2 => absurd h1 (by omega), rfl⟩
  case round =>
    obtain ⟨j, q, hj, rfl, ht, hq⟩ := hrel
    cases j with
    | zero =>
      have E : Hid _ := val_congr (f := f) (g := g) (n := n) (fun i hi => ht i (by omega) hi)
      have HQ : Hid _ := hq
      clear ht hq ha hm
      go_wp2
      go_ret
      exact ⟨by rw [E.out]; simp, q, HQ.out⟩
    | succ j =>
      obtain ⟨b1, o1, rfl, d1⟩ := ha (by omega)
      obtain ⟨b2, o2, rfl, d2⟩ := hm (by omega)
      have g1 : wr.cell? ⟨b1, o1 + j, none⟩ = some (.int .u64 (f j)) := by rw [hq]; exact d1 j (by omega)
      have g2 : wr.cell? ⟨b2, o2 + j, none⟩ = some (.int .u64 (g j)) := by rw [hq]; exact d2 j (by omega)
      have HQ : Hid _ := hq
      have HT : Hid _ := ht
      clear hq ht ha hm d1 d2
      rw [show ((j + 1 : Nat) : Int) - 1 = (j : Int) by omega]
      by_cases heq : f j = g j
      · go_wp2
        go_quiet (fail)
        go_wp2
        go_roundw
        case rel =>
          refine ⟨j, _, by omega, by go_num, ?_, by rw [HQ.out, World.drewN_drewN]⟩
          intro t h1 h2
          by_cases e : t = j
          · subst e; exact heq
          · exact HT.out t (by omega) h2
        case measure => simp [intOf]
      · have E : Hid _ := ord_at rf rg (k := j) (by omega) (fun t h1 h2 => HT.out t (by omega) h2) heq
        have hd : (f j == g j) = false := by simpa using heq
        go_wp2
        go_quiet (fail)
        go_wp2
        have g3 : (wr.drewN nq).cell? ⟨b1, o1 + j, none⟩ = some (.int .u64 (f j)) := g1
        have g4 : (wr.drewN nq).cell? ⟨b2, o2 + j, none⟩ = some (.int .u64 (g j)) := g2
        have QV : Hid (wr.drewN nq = w.drewN (q + nq)) := by show _ = _; rw [HQ.out, World.drewN_drewN]
        clear g1 g2
        generalize wr.drewN nq = V at *
        by_cases hlt : f j < g j
        · have HL : Hid (val f n < val g n) := by
            have := E.out; rw [ord_lt hlt] at this
            exact ord_neg_iff.1 (by rw [this]; decide)
          go_quiet (fail)
          go_wp2
          go_ret
          exact ⟨by rw [decide_eq_true HL.out]; rfl, _, by rw [QV.out, World.drewN_drewN]⟩
        · have HL : Hid (decide (val f n < val g n) = false) := by
            have := E.out; rw [ord_gt (show g j < f j by omega)] at this
            refine decide_eq_false fun h => ?_
            have h' := ord_neg_iff.2 h
            rw [this] at h'
            exact absurd h' (by decide)
          go_quiet (fail)
          go_wp2
          go_ret
          exact ⟨by rw [HL.out]; rfl, _, by rw [QV.out, World.drewN_drewN]⟩

/-- The lower n limbs less g's, the rest as it was. -/
theorem refSub_any (b off nt ct : Nat) (f : Nat → Int) (pm : Option Addr) (n cm : Nat) (g : Nat → Int) (w : World) (hn : n ≤ nt) (hnt : nt ≤ 1000) (hM : Mut w b off nt f) (hm : At w pm n g)
    (hne : 0 < n → ∀ b' o', pm = some ⟨b', o', none⟩ → b' ≠ b) (rf : Rg f n) (rg : Rg g n) :
    Calls Tryd.prog 65 #[.slice (some ⟨b, off, none⟩) nt ct, .slice pm n cm] w fun e w' => e = .returned (.tuple #[]) ∧ Upd b off (off + n) w w' ∧ Mut w' b off nt (mix (df f g) f n) := by
  go_enter Tryd.func65, Tryd.ntmps65
  go_wp2
  go_loopw [4, 5] (fun c i wr => ∃ j : Nat, j ≤ n ∧ i = .int .i64 j ∧ c = .int .u64 (bw f g j) ∧ Upd b off (off + n) w wr ∧ Mut wr b off nt (mix (df f g) f j)) (fun _ i _ => n - (intOf i).toNat)
  case atStart => exact ⟨0, Nat.zero_le _, rfl, rfl, Upd.refl _ _ _ _, hM.congr (fun j _ => (mix_zero _ _ _).symm)⟩
  case round =>
    obtain ⟨i, hi, rfl, rfl, hu, hW⟩ := hrel
    by_cases hlt : i < n
    · obtain ⟨b2, o2, rfl, d2⟩ := (hm.upd hu hne) (by omega)
      have g2 := d2 i hlt
      obtain ⟨g1, gz⟩ := hW i (by omega)
      rw [mix_hi (Nat.le_refl i)] at g1
      have hs := sub64_call (f i) (g i) (bw f g i) (rf i hlt) (rg i hlt) (bw_bd _ _ _)
      rw [show (f i + B64 - g i - bw f g i) % B64 = df f g i from rfl, show (if f i < g i + bw f g i then (1 : Int) else 0) = bw f g (i + 1) from rfl] at hs
      have HW : Hid _ := hW
      have HU : Hid _ := hu
      clear hW hu hm hM d2
      go_wp2
      go_region_with (fail)
      all_goals
        go_wp2
        go_roundw
        case rel => exact ⟨i + 1, by omega, by go_num, rfl, (Upd.setCell HU.out (by omega) (by omega) _).drew, (MutK.step HW.out (by omega)).drew⟩
        case measure => simp [intOf]; omega
    · have e : n = i := by omega
      subst e
      have HW : Hid _ := hW
      have HU : Hid _ := hu
      clear hW hu hm hM
      go_wp2
      go_end0
      exact ⟨rfl, HU.out, HW.out⟩
end Go.Proofs.YtgdmjngajjoliaaDoor
