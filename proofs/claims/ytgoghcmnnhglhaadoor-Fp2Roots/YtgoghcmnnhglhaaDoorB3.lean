/- ZW ZC IG IA JA JB IC ID. -/
import Derived.Test.YtgoghcmnnhglhaaDoorB2
import Derived.Test.YtgoghcmnnhglhaaDoorB1
import Derived.Deep.RegionHeld3
import Derived.ScopeJumps
/- Sub, Neg. -/
namespace Go.Proofs.YtgoghcmnnhglhaaDoor.fpn
open Go.RowKit
attribute [local go_sem ↓] Go.wp_at_zero Go.wp_at_succ
set_option linter.unusedVariables false

set_option maxHeartbeats 8000000 in
theorem sub_at (f g h k : Nat → Int) (c : Int) (w : World) (K : ∀ w, Calls Tryd.prog 53 #[.agg #[.int .u64 (f 0), .int .u64 (f 1), .int .u64 (f 2), .int .u64 (f 3), .int .u64 (f 4), .int .u64 (f 5)], .agg #[.int .u64 (g 0), .int .u64 (g 1), .int .u64 (g 2), .int .u64 (g 3), .int .u64 (g 4), .int .u64 (g 5)]] w fun e w' => e = .returned (.tuple #[.agg #[.int .u64 (h 0), .int .u64 (h 1), .int .u64 (h 2), .int .u64 (h 3), .int .u64 (h 4), .int .u64 (h 5)], .int .u64 c]) ∧ Below w.heap.size w w')
    (KP : ∀ w, Calls Tryd.prog 59 #[.agg #[.int .u64 (h 0), .int .u64 (h 1), .int .u64 (h 2), .int .u64 (h 3), .int .u64 (h 4), .int .u64 (h 5)], .agg #[.int .u64 (rL 0), .int .u64 (rL 1), .int .u64 (rL 2), .int .u64 (rL 3), .int .u64 (rL 4), .int .u64 (rL 5)]] w fun e w' => e = .returned (.agg #[.int .u64 (k 0), .int .u64 (k 1), .int .u64 (k 2), .int .u64 (k 3), .int .u64 (k 4), .int .u64 (k 5)]) ∧ Below w.heap.size w w') (r : Nat → Int) (hc : Hid ((c = 0 ∧ r = h) ∨ (c = 1 ∧ r = k))) :
    Calls Tryd.prog 37 #[.agg #[.int .u64 (f 0), .int .u64 (f 1), .int .u64 (f 2), .int .u64 (f 3), .int .u64 (f 4), .int .u64 (f 5)], .agg #[.int .u64 (g 0), .int .u64 (g 1), .int .u64 (g 2), .int .u64 (g 3), .int .u64 (g 4), .int .u64 (g 5)]] w fun e w' => e = .returned (.agg #[.int .u64 (r 0), .int .u64 (r 1), .int .u64 (r 2), .int .u64 (r 3), .int .u64 (r 4), .int .u64 (r 5)]) ∧ Below w.heap.size w w' := by
  have HK : Hid _ := K
  have HP : Hid _ := KP
  clear K KP
  obtain ⟨B1, z1, hF, hG, hR⟩ := three_all w f g 24
  unfold three at B1 z1 hF hG hR
  go_enter Tryd.func37, Tryd.ntmps37
  go_wp2_with fail
  generalize ((w.alloc (.cells #[.int .u64 (f 0), .int .u64 (f 1), .int .u64 (f 2), .int .u64 (f 3), .int .u64 (f 4), .int .u64 (f 5)] 24)).alloc (.cells #[.int .u64 (g 0), .int .u64 (g 1), .int .u64 (g 2), .int .u64 (g 3), .int .u64 (g 4), .int .u64 (g 5)] 24)).alloc (.cells #[.int .u64 0, .int .u64 0, .int .u64 0, .int .u64 0, .int .u64 0, .int .u64 0] 24) = W at *
  refine Calls.mono (HK.out _) ?_
  rintro e w2 ⟨rfl, b2⟩
  have bv := Below.up b2 (Nat.le_refl _) (below_one w2 (.cells #[.int .u64 (h 0), .int .u64 (h 1), .int .u64 (h 2), .int .u64 (h 3), .int .u64 (h 4), .int .u64 (h 5)] 24))
  have lt2 : w.heap.size + 2 < W.heap.size := by rw [z1]; omega
  have mv := mut_four w2 h 24
  have HRV : Hid _ := MutK.below hR bv lt2
  have B1V : Hid _ := Below.up B1 (Nat.le_refl _) bv
  obtain ⟨y0, y1, y2, y3, y4, y5⟩ := MutK.cells6 HRV.out
  obtain ⟨q0, q1, q2, q3, q4, q5⟩ := MutK.free6 HRV.out
  clear bv HK lt2 hF hG hR B1 z1 b2
  rcases hc.out with ⟨rfl, rfl⟩ | ⟨rfl, rfl⟩
  · clear HP hc mv
    go_wp2
    refine bodyPost_ret (v := .agg #[.int .u64 (r 0), .int .u64 (r 1), .int .u64 (r 2), .int .u64 (r 3), .int .u64 (r 4), .int .u64 (r 5)]) (by simp [results, Tryd.results37, go_sem, y0, y1, y2, y3, y4, y5]) rfl ⟨rfl, ?_⟩
    exact below_set6 B1V.out (by omega) _ _ _ _ _ _
  · clear hc y0 y1 y2 y3 y4 y5 q0 q1 q2 q3 q4 q5
    go_wp2_with fail
    generalize w2.alloc (.cells #[.int .u64 (h 0), .int .u64 (h 1), .int .u64 (h 2), .int .u64 (h 3), .int .u64 (h 4), .int .u64 (h 5)] 24) = V at *
    obtain ⟨v0, v1, v2, v3, v4, v5⟩ := MutK.cells6 mv
    have HV : Hid (∀ x, Below V.heap.size V x → (x.cell? ⟨w2.heap.size, 0, none⟩ = some (.int .u64 (h 0)) ∧ x.cell? ⟨w2.heap.size, 1, none⟩ = some (.int .u64 (h 1)) ∧ x.cell? ⟨w2.heap.size, 2, none⟩ = some (.int .u64 (h 2)) ∧ x.cell? ⟨w2.heap.size, 3, none⟩ = some (.int .u64 (h 3)) ∧ x.cell? ⟨w2.heap.size, 4, none⟩ = some (.int .u64 (h 4)) ∧ x.cell? ⟨w2.heap.size, 5, none⟩ = some (.int .u64 (h 5)))) := fun x hx => at6 (mv.at.below hx)
    have ltV : w.heap.size + 2 < V.heap.size := cell_lt (MutK.cells6 HRV.out).1
    clear mv
    go_region_with (first
      | (go_at_call 54; refine Calls.mono (prime_any _) ?_; rintro e x3 ⟨rfl, b3⟩; have BX : Below V.heap.size V x3 := below_drew b3; obtain ⟨e0, e1, e2, e3, e4, e5⟩ := HV.out _ BX; have BV3 : Hid _ := BX; clear BX b3)
      | (go_at_call 59; refine Calls.mono (HP.out _) ?_; rintro e x4 ⟨rfl, b4⟩; have BX : Below V.heap.size V x4 := Below.up BV3.out (Nat.le_refl _) b4; obtain ⟨y0, y1, y2, y3, y4, y5⟩ := MutK.cells6 (MutK.below HRV.out BX ltV); obtain ⟨q0, q1, q2, q3, q4, q5⟩ := MutK.free6 (MutK.below HRV.out BX ltV); have BV4 : Hid _ := BX; clear BX b4))
    all_goals
      go_wp2
      refine bodyPost_ret (v := .agg #[.int .u64 (r 0), .int .u64 (r 1), .int .u64 (r 2), .int .u64 (r 3), .int .u64 (r 4), .int .u64 (r 5)]) (by simp [results, Tryd.results37, go_sem, y0, y1, y2, y3, y4, y5]) rfl ⟨rfl, ?_⟩
      exact below_set6 (Below.up B1V.out (Nat.le_refl _) BV4.out) (by omega) _ _ _ _ _ _

theorem sub_more {f g : Nat → Int} (rf : Rg f 6) (rg : Rg g 6) (lf : val f 6 < RI) (lg : val g 6 < RI) (hb : bw f g 6 = 1) : val (sm (df f g) rL 0) 6 = (val f 6 - val g 6) % RI := by
  have v1 := val_df rf rg
  have v2 := val_sm (df f g) rL 0 6
  have d1 := val_bd (df_rg f g 6)
  have d2 := val_bd (sm_rg (df f g) rL 0 6)
  have c := cy_bd (df_rg f g 6) rL_rg (c := 0) ⟨by decide, by decide⟩
  have df0 := (val_bd rf).1
  have dg0 := (val_bd rg).1
  have hpw : 2 * RI < pw 6 := by decide +kernel
  rw [hb] at v1
  rw [rL_val] at v2
  have hp := RI_pos
  have e : val (sm (df f g) rL 0) 6 = val f 6 - val g 6 + RI := by
    rcases (show cy (df f g) rL 0 6 = 0 ∨ cy (df f g) rL 0 6 = 1 by omega) with h | h <;> rw [h] at v2 <;> omega
  rw [e, ← Int.add_emod_right (val f 6 - val g 6) RI]
  exact (Int.emod_eq_of_lt (by omega) (by omega)).symm
theorem sub_less {f g : Nat → Int} (rf : Rg f 6) (rg : Rg g 6) (lf : val f 6 < RI) (hb : bw f g 6 = 0) : val (df f g) 6 = (val f 6 - val g 6) % RI := by
  have v1 := val_df rf rg
  have d1 := val_bd (df_rg f g 6)
  have dg0 := (val_bd rg).1
  rw [hb] at v1
  rw [show val f 6 - val g 6 = val (df f g) 6 by omega]
  exact (Int.emod_eq_of_lt (by omega) (by omega)).symm

theorem frSub_any (f g : Nat → Int) (w : World) (rf : Rg f 6) (rg : Rg g 6) (lf : val f 6 < RI) (lg : val g 6 < RI) :
    Calls Tryd.prog 37 #[.agg #[.int .u64 (f 0), .int .u64 (f 1), .int .u64 (f 2), .int .u64 (f 3), .int .u64 (f 4), .int .u64 (f 5)], .agg #[.int .u64 (g 0), .int .u64 (g 1), .int .u64 (g 2), .int .u64 (g 3), .int .u64 (g 4), .int .u64 (g 5)]] w fun e w' => ∃ h : Nat → Int, e = .returned (.agg #[.int .u64 (h 0), .int .u64 (h 1), .int .u64 (h 2), .int .u64 (h 3), .int .u64 (h 4), .int .u64 (h 5)]) ∧ Rg h 6 ∧ val h 6 = (val f 6 - val g 6) % RI ∧ Below w.heap.size w w' := by
  have hb := bw_bd f g 6
  have K := fun r hc => sub_at f g (df f g) (sm (df f g) rL 0) (bw f g 6) w (fun w => less_any f g w rf rg) (fun w => plus_any (df f g) rL w (df_rg f g 6) rL_rg) r hc
  rcases (show bw f g 6 = 0 ∨ bw f g 6 = 1 by omega) with e | e
  · refine Calls.mono (K (df f g) (Or.inl ⟨e, rfl⟩)) ?_
    rintro e' w' ⟨rfl, b⟩
    exact ⟨_, rfl, df_rg f g 6, sub_less rf rg lf e, b⟩
  · refine Calls.mono (K (sm (df f g) rL 0) (Or.inr ⟨e, rfl⟩)) ?_
    rintro e' w' ⟨rfl, b⟩
    exact ⟨_, rfl, sm_rg _ _ _ _, sub_more rf rg lf lg e, b⟩

theorem frNeg_any (f : Nat → Int) (w : World) (rf : Rg f 6) (lf : val f 6 < RI) : Calls Tryd.prog 39 #[.agg #[.int .u64 (f 0), .int .u64 (f 1), .int .u64 (f 2), .int .u64 (f 3), .int .u64 (f 4), .int .u64 (f 5)]] w fun e w' => ∃ h : Nat → Int, e = .returned (.agg #[.int .u64 (h 0), .int .u64 (h 1), .int .u64 (h 2), .int .u64 (h 3), .int .u64 (h 4), .int .u64 (h 5)]) ∧ Rg h 6 ∧ val h 6 = (0 - val f 6) % RI ∧ Below w.heap.size w w' := by
  have K : ∀ W : World, Calls Tryd.prog 37 #[.agg #[.int .u64 0, .int .u64 0, .int .u64 0, .int .u64 0, .int .u64 0, .int .u64 0], .agg #[.int .u64 (f 0), .int .u64 (f 1), .int .u64 (f 2), .int .u64 (f 3), .int .u64 (f 4), .int .u64 (f 5)]] W fun e w' => ∃ h : Nat → Int, e = .returned (.agg #[.int .u64 (h 0), .int .u64 (h 1), .int .u64 (h 2), .int .u64 (h 3), .int .u64 (h 4), .int .u64 (h 5)]) ∧ Rg h 6 ∧ val h 6 = (0 - val f 6) % RI ∧ Below W.heap.size W w' := fun W => by
    have := frSub_any Z f W (Z_rg 6) rf (by rw [val_Z]; decide) lf
    rw [val_Z] at this
    exact this
  have HK : Hid _ := K
  clear K
  obtain ⟨B1, z1, -, hR⟩ := pair_all w f 24
  unfold pair at B1 z1 hR
  go_enter Tryd.func39, Tryd.ntmps39
  go_wp2_with fail
  generalize (w.alloc (.cells #[.int .u64 (f 0), .int .u64 (f 1), .int .u64 (f 2), .int .u64 (f 3), .int .u64 (f 4), .int .u64 (f 5)] 24)).alloc (.cells #[.int .u64 0, .int .u64 0, .int .u64 0, .int .u64 0, .int .u64 0, .int .u64 0] 24) = W at *
  refine Calls.mono (HK.out _) ?_
  rintro e w2 ⟨h, rfl, r2, v2, b2⟩
  obtain ⟨y0, y1, y2, y3, y4, y5⟩ := (hR.below b2 (by rw [z1]; omega)).cells6
  obtain ⟨x0, x1, x2, x3, x4, x5⟩ := (hR.below b2 (by rw [z1]; omega)).free6
  have HB : Hid _ := Below.up B1 (Nat.le_refl _) b2
  have R2 : Hid _ := r2
  have V2 : Hid _ := v2
  clear b2 B1 hR r2 v2
  go_wp2
  refine bodyPost_ret (v := .agg #[.int .u64 (h 0), .int .u64 (h 1), .int .u64 (h 2), .int .u64 (h 3), .int .u64 (h 4), .int .u64 (h 5)]) (by simp [results, Tryd.results39, go_sem, y0, y1, y2, y3, y4, y5]) rfl ⟨h, rfl, R2.out, V2.out, ?_⟩
  exact below_set6 HB.out (by omega) _ _ _ _ _ _
end Go.Proofs.YtgoghcmnnhglhaaDoor.fpn

/- What lift, drop, bitAt, Mul, Pow, Inv and Root of package fr answer. -/
namespace Go.Proofs.YtgoghcmnnhglhaaDoor.fpn
open Go.RowKit
attribute [local go_sem ↓] Go.wp_at_zero Go.wp_at_succ
set_option linter.unusedVariables false

/-- As Q; by a goto to label 0: J0; to label 1: J1. -/
def Exit.jump2 (J0 J1 : Act → World → Prop) (Q : Exit → Act → World → Prop) : Exit → Act → World → Prop
  | .goto l, a, w => (l = 0 ∧ J0 a w) ∨ (l = 1 ∧ J1 a w)
  | e, a, w => Q e a w

theorem wp_scope_two {P : Program} {a : Act} {w : World} {Q : Exit → Act → World → Prop} {c r0 r1 : Code} (J0 J1 : Act → World → Prop) (m0 m1 : Act → World → Nat)
    (hf0 : findLabel c 0 = some (.seq .skip r0)) (hf1 : findLabel c 1 = some (.seq .skip r1))
    (pass1 : ∀ a w, J1 a w → r1.wp P (Exit.jump2 (fun _ _ => False) (fun a' w' => J1 a' w' ∧ m1 a' w' < m1 a w) Q) a w)
    (pass0 : (∀ J a w, J1 a w → r1.wp P (Exit.jump2 J J1 Q) a w) → ∀ a w, J0 a w → r0.wp P (Exit.jump2 (fun a' w' => J0 a' w' ∧ m0 a' w' < m0 a w) J1 Q) a w)
    (first : (∀ a w, J0 a w → r0.wp P (Exit.jump2 J0 J1 Q) a w) → c.wp P (Exit.jump2 J0 J1 Q) a w) : (Code.scope c).wp P Q a w := by
  have h1 : ∀ J a w, J1 a w → r1.wp P (Exit.jump2 J J1 Q) a w := fun J a w h => wp_mono (pass1 a w h) (fun e a w q => by
    cases e <;> first | exact q | (rcases q with ⟨_, q⟩ | ⟨q1, q2, _⟩; exact q.elim; exact Or.inr ⟨q1, q2⟩))
  have p0 := pass0 h1
  have h0 : ∀ a w, J0 a w → r0.wp P (Exit.jump2 J0 J1 Q) a w := fun a w h => wp_mono (p0 a w h) (fun e a w q => by
    cases e <;> first | exact q | (rcases q with ⟨q1, q2, _⟩ | q; exact Or.inl ⟨q1, q2⟩; exact Or.inr q))
  have f := first h0
  intro b k cs
  have hg0 : gotoIn 0 (.inScope c :: k) = some (.code (.seq .skip r0) :: .inScope c :: k) := by simp [gotoIn, hf0]
  have hg1 : gotoIn 1 (.inScope c :: k) = some (.code (.seq .skip r1) :: .inScope c :: k) := by simp [gotoIn, hf1]
  have key1 : ∀ n a w, m1 a w = n → J1 a w → ∃ e a' w', Q e a' w' ∧ Arrives P (lone (b.at a (.code (.seq .skip r1) :: .inScope c :: k)) cs w) b k cs e a' w' := by
    intro n
    induction n using Nat.strongRecOn with
    | _ n ih =>
      intro a w hn hJ
      obtain ⟨e, a1, w1, hq, harr⟩ := wp_seq (wp_skip (pass1 a w hJ)) b (.inScope c :: k) cs
      cases e with
      | normal => exact ⟨.normal, a1, w1, hq, Steps.trans harr (.one step_inScope)⟩
      | exit id => exact ⟨.exit id, a1, w1, hq, fun k' hk => harr k' (by simp [exitTo, hk])⟩
      | goto l' =>
        rcases hq with ⟨_, hq⟩ | ⟨rfl, hJ', hlt⟩
        · exact hq.elim
        · obtain ⟨e2, a2, w2, hq2, harr2⟩ := ih _ (by omega) a1 w1 rfl hJ'
          exact ⟨e2, a2, w2, hq2, .of_steps (harr _ hg1) harr2⟩
      | ret => exact ⟨_, a1, w1, hq, harr⟩
      | panic ch => exact ⟨_, a1, w1, hq, harr⟩
      | outgrown => exact ⟨_, a1, w1, hq, harr⟩
  have key0 : ∀ n a w, m0 a w = n → J0 a w → ∃ e a' w', Q e a' w' ∧ Arrives P (lone (b.at a (.code (.seq .skip r0) :: .inScope c :: k)) cs w) b k cs e a' w' := by
    intro n
    induction n using Nat.strongRecOn with
    | _ n ih =>
      intro a w hn hJ
      obtain ⟨e, a1, w1, hq, harr⟩ := wp_seq (wp_skip (p0 a w hJ)) b (.inScope c :: k) cs
      cases e with
      | normal => exact ⟨.normal, a1, w1, hq, Steps.trans harr (.one step_inScope)⟩
      | exit id => exact ⟨.exit id, a1, w1, hq, fun k' hk => harr k' (by simp [exitTo, hk])⟩
      | goto l' =>
        rcases hq with ⟨rfl, hJ', hlt⟩ | ⟨rfl, hJ'⟩
        · obtain ⟨e2, a2, w2, hq2, harr2⟩ := ih _ (by omega) a1 w1 rfl hJ'
          exact ⟨e2, a2, w2, hq2, .of_steps (harr _ hg0) harr2⟩
        · obtain ⟨e2, a2, w2, hq2, harr2⟩ := key1 _ a1 w1 rfl hJ'
          exact ⟨e2, a2, w2, hq2, .of_steps (harr _ hg1) harr2⟩
      | ret => exact ⟨_, a1, w1, hq, harr⟩
      | panic ch => exact ⟨_, a1, w1, hq, harr⟩
      | outgrown => exact ⟨_, a1, w1, hq, harr⟩
  obtain ⟨e, a1, w1, hq, harr⟩ := f b (.inScope c :: k) cs
  cases e with
  | normal => exact ⟨.normal, a1, w1, hq, .head step_scope (Steps.trans harr (.one step_inScope))⟩
  | exit id => exact ⟨.exit id, a1, w1, hq, fun k' hk => .head step_scope (harr k' (by simp [exitTo, hk]))⟩
  | goto l' =>
    rcases hq with ⟨rfl, hJ'⟩ | ⟨rfl, hJ'⟩
    · obtain ⟨e2, a2, w2, hq2, harr2⟩ := key0 _ a1 w1 rfl hJ'
      exact ⟨e2, a2, w2, hq2, .of_steps (.head step_scope (harr _ hg0)) harr2⟩
    · obtain ⟨e2, a2, w2, hq2, harr2⟩ := key1 _ a1 w1 rfl hJ'
      exact ⟨e2, a2, w2, hq2, .of_steps (.head step_scope (harr _ hg1)) harr2⟩
  | ret => exact ⟨_, a1, w1, hq, .of_steps (.one step_scope) harr⟩
  | panic ch => exact ⟨_, a1, w1, hq, .of_steps (.one step_scope) harr⟩
  | outgrown => exact ⟨_, a1, w1, hq, .of_steps (.one step_scope) harr⟩

/-- Montgomery's factor taken off. -/
theorem cancel4 {x y : Int} (h : x * pw 6 % RI = y * pw 6 % RI) (h0 : 0 ≤ x) (h1 : x < RI) : x = y % RI := by
  have e2 : x * pw 6 * uI % RI = y * pw 6 * uI % RI := by rw [← mul_mod_l, h, mul_mod_l]
  have e3 : pw 6 * uI % RI = 1 := by decide +kernel
  rw [Int.mul_assoc, ← mul_mod_r, e3, Int.mul_assoc y, ← mul_mod_r y, e3, Int.mul_one, Int.mul_one] at e2
  rw [← e2]; exact (Int.emod_eq_of_lt h0 h1).symm

theorem lift_num {x a : Int} (h : x * pw 6 % RI = a * val cL 6 % RI) (h0 : 0 ≤ x) (h1 : x < RI) : x = a * pw 6 % RI :=
  cancel4 (by rw [h, ← mul_mod_r, cL_val, mul_mod_r, Int.mul_assoc]) h0 h1
theorem drop_num {x a p : Int} (h : x * pw 6 % RI = p * 1 % RI) (hp : p = a * pw 6 % RI) (h0 : 0 ≤ x) (h1 : x < RI) : x = a % RI :=
  cancel4 (by rw [h, Int.mul_one, hp, Int.emod_emod]) h0 h1
theorem times_num {x a b p q : Int} (h : x * pw 6 % RI = p * q % RI) (hp : p = a * pw 6 % RI) (hq : q = b * pw 6 % RI) (h0 : 0 ≤ x) (h1 : x < RI) : x = a * b * pw 6 % RI :=
  cancel4 (by rw [h, hp, hq, mul_mod_l, mul_mod_r, Int.mul_assoc a, Int.mul_comm (pw 6) (b * pw 6), ← Int.mul_assoc, ← Int.mul_assoc a]) h0 h1
theorem mul_num {x a b p : Int} (h : x * pw 6 % RI = p * b % RI) (hp : p = a * pw 6 % RI) (h0 : 0 ≤ x) (h1 : x < RI) : x = a * b % RI :=
  cancel4 (by rw [h, hp, mul_mod_l, Int.mul_assoc, Int.mul_comm (pw 6), ← Int.mul_assoc]) h0 h1

theorem lift_any (f : Nat → Int) (w : World) (hg : Gl w) (rf : Rg f 6) : Calls Tryd.prog 64 #[.agg #[.int .u64 (f 0), .int .u64 (f 1), .int .u64 (f 2), .int .u64 (f 3), .int .u64 (f 4), .int .u64 (f 5)]] w fun e w' => ∃ h : Nat → Int, e = .returned (.agg #[.int .u64 (h 0), .int .u64 (h 1), .int .u64 (h 2), .int .u64 (h 3), .int .u64 (h 4), .int .u64 (h 5)]) ∧ Rg h 6 ∧ val h 6 = val f 6 * pw 6 % RI ∧ Below w.heap.size w w' := by
  obtain ⟨B1, z1, -, hR⟩ := pair_all w f 24
  unfold pair at B1 z1 hR
  obtain ⟨c0, c1, c2, c3, c4, c5⟩ := at6 (hg.stay B1).2
  have K : Hid _ := fun w => times_any f cL w rf cL_rg (by have := cL_lt; rw [rL_val] at this; exact this)
  go_enter Tryd.func64, Tryd.ntmps64
  go_wp2_with fail
  generalize (w.alloc (.cells #[.int .u64 (f 0), .int .u64 (f 1), .int .u64 (f 2), .int .u64 (f 3), .int .u64 (f 4), .int .u64 (f 5)] 24)).alloc (.cells #[.int .u64 0, .int .u64 0, .int .u64 0, .int .u64 0, .int .u64 0, .int .u64 0] 24) = W at *
  refine Calls.mono (K.out _) ?_
  rintro e w2 ⟨h, rfl, r2, l2, v2, b2⟩
  obtain ⟨y0, y1, y2, y3, y4, y5⟩ := (hR.below b2 (by rw [z1]; omega)).cells6
  obtain ⟨x0, x1, x2, x3, x4, x5⟩ := (hR.below b2 (by rw [z1]; omega)).free6
  have HB : Hid _ := Below.up B1 (Nat.le_refl _) b2
  have R2 : Hid _ := r2
  have V2 : Hid _ := lift_num v2 (val_bd r2).1 l2
  clear b2 B1 hR r2 l2 v2 c0 c1 c2 c3 c4 c5
  go_wp2
  refine bodyPost_ret (v := .agg #[.int .u64 (h 0), .int .u64 (h 1), .int .u64 (h 2), .int .u64 (h 3), .int .u64 (h 4), .int .u64 (h 5)]) (by simp [results, Tryd.results64, go_sem, y0, y1, y2, y3, y4, y5]) rfl ⟨h, rfl, R2.out, V2.out, ?_⟩
  exact below_set6 HB.out (by omega) _ _ _ _ _ _

theorem drop_any (f : Nat → Int) (X : Int) (w : World) (rf : Rg f 6) (hf : val f 6 = X * pw 6 % RI) : Calls Tryd.prog 73 #[.agg #[.int .u64 (f 0), .int .u64 (f 1), .int .u64 (f 2), .int .u64 (f 3), .int .u64 (f 4), .int .u64 (f 5)]] w fun e w' => ∃ h : Nat → Int, e = .returned (.agg #[.int .u64 (h 0), .int .u64 (h 1), .int .u64 (h 2), .int .u64 (h 3), .int .u64 (h 4), .int .u64 (h 5)]) ∧ Rg h 6 ∧ val h 6 = X % RI ∧ Below w.heap.size w w' := by
  obtain ⟨B1, z1, hF, hR⟩ := pair_all w f 24
  unfold pair at B1 z1 hF hR
  have KO : Hid _ := fun w => frOf_any 1 w ⟨by decide, by rw [B64_eq]; decide⟩
  have K : Hid _ := fun (g : Nat → Int) w (rg : Rg g 6) (vg : val g 6 = 1) => times_any f g w rf rg (by rw [vg]; decide)
  have HX : Hid _ := hf
  clear hf
  go_enter Tryd.func73, Tryd.ntmps73
  go_wp2_with fail
  generalize (w.alloc (.cells #[.int .u64 (f 0), .int .u64 (f 1), .int .u64 (f 2), .int .u64 (f 3), .int .u64 (f 4), .int .u64 (f 5)] 24)).alloc (.cells #[.int .u64 0, .int .u64 0, .int .u64 0, .int .u64 0, .int .u64 0, .int .u64 0] 24) = W at *
  have HS : Hid (∀ x, Below W.heap.size W x → (x.cell? ⟨w.heap.size, 0, none⟩ = some (.int .u64 (f 0)) ∧ x.cell? ⟨w.heap.size, 1, none⟩ = some (.int .u64 (f 1)) ∧ x.cell? ⟨w.heap.size, 2, none⟩ = some (.int .u64 (f 2)) ∧ x.cell? ⟨w.heap.size, 3, none⟩ = some (.int .u64 (f 3)) ∧ x.cell? ⟨w.heap.size, 4, none⟩ = some (.int .u64 (f 4)) ∧ x.cell? ⟨w.heap.size, 5, none⟩ = some (.int .u64 (f 5)))) := fun x hx => (hF.below hx (by omega)).cells6
  have BW : Hid (Below W.heap.size W W.drew) := (Below.refl _ _).drew
  have B1' : Hid _ := B1
  have HR : Hid _ := hR
  have Z1 : Hid _ := z1
  clear hF hR B1 z1
  obtain ⟨a0, a1, a2, a3, a4, a5⟩ := HS.out _ (Below.refl _ _)
  go_region_with (first
    | (go_at_call 48; refine Calls.mono (KO.out _) ?_; rintro e x1 ⟨h1, rfl, r1, v1, b1⟩; have BX := Below.up BW.out (Nat.le_refl _) b1; clear BW; obtain ⟨e0, e1, e2, e3, e4, e5⟩ := HS.out _ BX; have BW : Hid _ := BX; clear BX; have R1 : Hid _ := r1; have V1 : Hid _ := v1; clear b1 r1 v1)
    | (go_at_call 63; refine Calls.mono (K.out h1 _ R1.out V1.out) ?_; rintro e x2 ⟨h, rfl, r2, l2, v2, b2⟩; have BX := Below.up BW.out (Nat.le_refl _) b2; clear BW; obtain ⟨y0, y1, y2, y3, y4, y5⟩ := (MutK.below HR.out BX (by rw [Z1.out]; omega)).cells6; obtain ⟨x0, x1, x2, x3, x4, x5⟩ := (MutK.below HR.out BX (by rw [Z1.out]; omega)).free6; have BW : Hid _ := BX; have HB : Hid _ := Below.up B1'.out (Nat.le_refl _) BX; have R2 : Hid _ := r2; have V2 : Hid _ := drop_num (by rw [V1.out] at v2; exact v2) HX.out (val_bd r2).1 l2; clear b2 r2 l2 v2 BX))
  all_goals
    go_wp2
    refine bodyPost_ret (v := .agg #[.int .u64 (h 0), .int .u64 (h 1), .int .u64 (h 2), .int .u64 (h 3), .int .u64 (h 4), .int .u64 (h 5)]) (by simp [results, Tryd.results73, go_sem, y0, y1, y2, y3, y4, y5]) rfl ⟨h, rfl, R2.out, V2.out, ?_⟩
    exact below_set6 HB.out (by omega) _ _ _ _ _ _

theorem bitAt_any (p : Option Addr) (n c : Nat) (g : Nat → Int) (j : Nat) (w : World) (hj : j < 64 * n) (hn : n ≤ 1000) (h : At w p n g) (rg : Rg g n) :
    Calls Tryd.prog 72 #[.slice p n c, .int .i64 j] w fun e w' => e = .returned (.int .u64 (g (j / 64) / 2 ^ (j % 64) % 2)) ∧ w' = w := by
  obtain ⟨b, off, rfl, hcell⟩ := h (by omega)
  have hm1 := hcell (j / 64) (by omega)
  have r := rg (j / 64) (by omega)
  have hbit : bits BinOp.and IntKind.u64 (g (j / 64) / 2 ^ (j % 64)) 1 = g (j / 64) / 2 ^ (j % 64) % 2 := and_one _ (Int.ediv_nonneg r.1 (Int.le_of_lt (Int.pow_pos (by decide)))) (by
    have := Int.ediv_le_self (2 ^ (j % 64)) r.1
    rw [B64_eq] at r
    omega)
  have HB : Hid _ := hbit
  have i1 : (j : Int) / 64 < (n : Int) := by omega
  clear hcell h hbit r rg
  go_enter Tryd.func72, Tryd.ntmps72
  go_wp2
  go_ret
  exact ⟨ret_int HB.out, rfl⟩

theorem frMul_any (f g : Nat → Int) (w : World) (hg : Gl w) (rf : Rg f 6) (rg : Rg g 6) :
    Calls Tryd.prog 40 #[.agg #[.int .u64 (f 0), .int .u64 (f 1), .int .u64 (f 2), .int .u64 (f 3), .int .u64 (f 4), .int .u64 (f 5)], .agg #[.int .u64 (g 0), .int .u64 (g 1), .int .u64 (g 2), .int .u64 (g 3), .int .u64 (g 4), .int .u64 (g 5)]] w fun e w' => ∃ h : Nat → Int, e = .returned (.agg #[.int .u64 (h 0), .int .u64 (h 1), .int .u64 (h 2), .int .u64 (h 3), .int .u64 (h 4), .int .u64 (h 5)]) ∧ Rg h 6 ∧ val h 6 = val f 6 * val g 6 % RI ∧ Below w.heap.size w w' := by
  obtain ⟨B1, z1, hF, hG, hR⟩ := three_all w f g 24
  unfold three at B1 z1 hF hG hR
  have KL : Hid _ := fun w hg => lift_any f w hg rf
  have K : Hid _ := fun (k : Nat → Int) w (rk : Rg k 6) (lk : val k 6 < RI) => times_any g k w rg rk lk
  have hgl := hg.stay B1
  clear rf rg hg
  go_enter Tryd.func40, Tryd.ntmps40
  go_wp2_with fail
  generalize ((w.alloc (.cells #[.int .u64 (f 0), .int .u64 (f 1), .int .u64 (f 2), .int .u64 (f 3), .int .u64 (f 4), .int .u64 (f 5)] 24)).alloc (.cells #[.int .u64 (g 0), .int .u64 (g 1), .int .u64 (g 2), .int .u64 (g 3), .int .u64 (g 4), .int .u64 (g 5)] 24)).alloc (.cells #[.int .u64 0, .int .u64 0, .int .u64 0, .int .u64 0, .int .u64 0, .int .u64 0] 24) = W at *
  have HS : Hid (∀ x, Below W.heap.size W x → ((x.cell? ⟨w.heap.size, 0, none⟩ = some (.int .u64 (f 0)) ∧ x.cell? ⟨w.heap.size, 1, none⟩ = some (.int .u64 (f 1)) ∧ x.cell? ⟨w.heap.size, 2, none⟩ = some (.int .u64 (f 2)) ∧ x.cell? ⟨w.heap.size, 3, none⟩ = some (.int .u64 (f 3)) ∧ x.cell? ⟨w.heap.size, 4, none⟩ = some (.int .u64 (f 4)) ∧ x.cell? ⟨w.heap.size, 5, none⟩ = some (.int .u64 (f 5))) ∧ (x.cell? ⟨w.heap.size + 1, 0, none⟩ = some (.int .u64 (g 0)) ∧ x.cell? ⟨w.heap.size + 1, 1, none⟩ = some (.int .u64 (g 1)) ∧ x.cell? ⟨w.heap.size + 1, 2, none⟩ = some (.int .u64 (g 2)) ∧ x.cell? ⟨w.heap.size + 1, 3, none⟩ = some (.int .u64 (g 3)) ∧ x.cell? ⟨w.heap.size + 1, 4, none⟩ = some (.int .u64 (g 4)) ∧ x.cell? ⟨w.heap.size + 1, 5, none⟩ = some (.int .u64 (g 5))))) := fun x hx => ⟨at6 (hF.below hx), at6 (hG.below hx)⟩
  have BW : Hid (Below W.heap.size W W.drew) := (Below.refl _ _).drew
  have B1' : Hid _ := B1
  have HR : Hid _ := hR
  have Z1 : Hid _ := z1
  have HGL : Hid _ := hgl
  clear hF hG hR B1 z1 hgl
  obtain ⟨⟨a0, a1, a2, a3, a4, a5⟩, c0, c1, c2, c3, c4, c5⟩ := HS.out _ (Below.refl _ _)
  go_region_with (first
    | (go_at_call 64; refine Calls.mono (KL.out _ (Gl.stay HGL.out BW.out)) ?_; rintro e x1 ⟨h1, rfl, r1, v1, b1⟩; have BX := Below.up BW.out (Nat.le_refl _) b1; clear BW; obtain ⟨⟨e0, e1, e2, e3, e4, e5⟩, d0, d1, d2, d3, d4, d5⟩ := HS.out _ BX; have BW : Hid _ := BX; clear BX; have R1 : Hid _ := r1; have V1 : Hid _ := v1; clear b1 r1 v1)
    | (go_at_call 63; refine Calls.mono (K.out h1 _ R1.out (by rw [V1.out]; exact modR_lt _)) ?_; rintro e x2 ⟨h, rfl, r2, l2, v2, b2⟩; have BX := Below.up BW.out (Nat.le_refl _) b2; clear BW; obtain ⟨y0, y1, y2, y3, y4, y5⟩ := (MutK.below HR.out BX (by rw [Z1.out]; omega)).cells6; obtain ⟨x0, x1, x2, x3, x4, x5⟩ := (MutK.below HR.out BX (by rw [Z1.out]; omega)).free6; have BW : Hid _ := BX; have HB : Hid _ := Below.up B1'.out (Nat.le_refl _) BX; have R2 : Hid _ := r2; have V2 : Hid _ := mul_num (by rw [Int.mul_comm (val g 6)] at v2; exact v2) V1.out (val_bd r2).1 l2; clear b2 r2 l2 v2 BX))
  all_goals
    go_wp2
    refine bodyPost_ret (v := .agg #[.int .u64 (h 0), .int .u64 (h 1), .int .u64 (h 2), .int .u64 (h 3), .int .u64 (h 4), .int .u64 (h 5)]) (by simp [results, Tryd.results40, go_sem, y0, y1, y2, y3, y4, y5]) rfl ⟨h, rfl, R2.out, V2.out, ?_⟩
    exact below_set6 HB.out (by omega) _ _ _ _ _ _

/-- What the two rounds of Pow keep. -/
def powJ (f : Nat → Int) (p : Option Addr) (n c : Nat) (E : Nat) (w : World) (T : Nat → Prop) : Act → World → Prop := fun a' w' => ∃ (L b : Nat) (k h : Nat → Int) (u8 u9 u10 u11 u12 u13 u14 u15 u16 u17 u18 u19 u20 u21 u22 u23 u24 u25 u26 u27 u28 u29 u30 u31 u32 u33 u34 u35 u36 u37 u38 u39 u40 u41 : Value),
  a' = { tmps := #[.agg #[.int .u64 (f 0), .int .u64 (f 1), .int .u64 (f 2), .int .u64 (f 3), .int .u64 (f 4), .int .u64 (f 5)], .slice p n c, .pointer (some ⟨w.heap.size, 0, none⟩), undef, .pointer (some ⟨w.heap.size + 1, 0, none⟩), .pointer (some ⟨b, 0, none⟩), .pointer (some ⟨b + 1, 0, none⟩), .int .i64 L, u8, u9, u10, u11, u12, u13, u14, u15, u16, u17, u18, u19, u20, u21, u22, u23, u24, u25, u26, u27, u28, u29, u30, u31, u32, u33, u34, u35, u36, u37, u38, u39, u40, u41], defers := [] } ∧ T L ∧ L ≤ 64 * n ∧ w.heap.size + 2 ≤ b ∧ Below w.heap.size w w' ∧ Mut w' (w.heap.size + 1) 0 6 Z ∧ Mut w' b 0 6 k ∧ Rg k 6 ∧ val k 6 = val f 6 * pw 6 % RI ∧ Mut w' (b + 1) 0 6 h ∧ Rg h 6 ∧ val h 6 = val f 6 ^ (E / 2 ^ L) * pw 6 % RI

theorem frPow_any (f : Nat → Int) (p : Option Addr) (n c : Nat) (g : Nat → Int) (E : Nat) (w : World) (hg : Gl w) (rf : Rg f 6) (hn : n ≤ 24) (he : At w p n g) (rg : Rg g n) (hE : val g n = (E : Int)) :
    Calls Tryd.prog 55 #[.agg #[.int .u64 (f 0), .int .u64 (f 1), .int .u64 (f 2), .int .u64 (f 3), .int .u64 (f 4), .int .u64 (f 5)], .slice p n c] w fun e w' => ∃ h : Nat → Int, e = .returned (.agg #[.int .u64 (h 0), .int .u64 (h 1), .int .u64 (h 2), .int .u64 (h 3), .int .u64 (h 4), .int .u64 (h 5)]) ∧ Rg h 6 ∧ val h 6 = val f 6 ^ E % RI ∧ Below w.heap.size w w' := by
  obtain ⟨B1, z1, hF, hR⟩ := pair_all w f 24
  unfold pair at B1 z1 hF hR
  have KL : Hid _ := fun (k : Nat → Int) w hg (rk : Rg k 6) => lift_any k w hg rk
  have KO : Hid _ := fun w => frOf_any 1 w ⟨by decide, by rw [B64_eq]; decide⟩
  have hgl := hg.stay B1
  have N0 : ∀ j, j < 64 * n → Hid (g (j / 64) / 2 ^ (j % 64) % 2 = ((E / 2 ^ j % 2 : Nat) : Int)) := fun j hj => nat_bit rg hE hj
  have NT : Hid _ := nat_top rg hE
  have HRG : Hid _ := rg
  have HE : Hid _ := he
  clear rg hE he
  go_enter Tryd.func55, Tryd.ntmps55
  go_wp2_with fail
  refine wp_scope_two (powJ f p n c E w (fun L => E / 2 ^ L = 0)) (powJ f p n c E w (fun _ => True)) (fun a' _ => slot 7 a') (fun a' _ => slot 7 a') rfl rfl ?_ ?_ ?_
  · clear hF hR B1 z1 hgl KL KO hg NT rf
    rintro a' W ⟨L, b, k, h, u8, u9, u10, u11, u12, u13, u14, u15, u16, u17, u18, u19, u20, u21, u22, u23, u24, u25, u26, u27, u28, u29, u30, u31, u32, u33, u34, u35, u36, u37, u38, u39, u40, u41, rfl, -, hL, hb, hbel, hR, hK, rk, vk, hH, rh, vh⟩
    cases L with
    | zero =>
      obtain ⟨x0, x1, x2, x3, x4, x5⟩ := hH.cells6
      rw [Nat.pow_zero, Nat.div_one] at vh
      have D : Hid _ := fun w => drop_any h (val f 6 ^ E) w rh vh
      have bl : w.heap.size + 2 ≤ W.heap.size := by have := cell_lt x0; simp only at this; omega
      clear rh vh hK rk vk hH
      go_wp2_with fail
      refine Calls.mono (D.out W) ?_
      rintro e w2 ⟨h2, rfl, r2, v2, b2⟩
      obtain ⟨y0, y1, y2, y3, y4, y5⟩ := (hR.below b2 (by omega)).cells6
      obtain ⟨z0, z1, z2, z3, z4, z5⟩ := (hR.below b2 (by omega)).free6
      have HB : Hid _ := Below.up hbel (Nat.le_refl _) b2
      have R2 : Hid _ := r2
      have V2 : Hid _ := v2
      clear b2 r2 v2 hR hbel x0 x1 x2 x3 x4 x5
      go_wp2
      simp only [Exit.jump2]
      refine bodyPost_ret (v := .agg #[.int .u64 (h2 0), .int .u64 (h2 1), .int .u64 (h2 2), .int .u64 (h2 3), .int .u64 (h2 4), .int .u64 (h2 5)]) (by simp [results, Tryd.results55, go_sem, y0, y1, y2, y3, y4, y5]) rfl ⟨h2, rfl, R2.out, V2.out, ?_⟩
      exact below_set6 HB.out (by omega) _ _ _ _ _ _
    | succ j =>
      obtain ⟨x0, x1, x2, x3, x4, x5⟩ := hH.cells6
      have M1 : Hid _ := fun w => times_any h h w rh rh (by rw [vh]; exact modR_lt _)
      have bl : b + 1 < W.heap.size := cell_lt x0
      go_wp2_with fail
      refine Calls.mono (M1.out W) ?_
      rintro e w2 ⟨h2, rfl, r2, l2, v2, b2⟩
      have v2' := times_num v2 vh vh (val_bd r2).1 l2
      rw [← Int.pow_add, ← Nat.two_mul] at v2'
      have k2 := hH.below b2 bl
      have q2 := hK.below b2 (by omega)
      have s2 := hR.below b2 (by omega)
      obtain ⟨y0, y1, y2, y3, y4, y5⟩ := k2.cells6
      obtain ⟨z0, z1, z2, z3, z4, z5⟩ := k2.free6
      have m4 := mut_set6 k2 h2
      have b4 := below_set6 (Below.up hbel (Nat.le_refl _) b2) (show w.heap.size ≤ b + 1 by omega) (.int .u64 (h2 0)) (.int .u64 (h2 1)) (.int .u64 (h2 2)) (.int .u64 (h2 3)) (.int .u64 (h2 4)) (.int .u64 (h2 5))
      have q4 := mut_not6 q2 (show b ≠ b + 1 by omega) (.int .u64 (h2 0)) (.int .u64 (h2 1)) (.int .u64 (h2 2)) (.int .u64 (h2 3)) (.int .u64 (h2 4)) (.int .u64 (h2 5))
      have s4 := mut_not6 s2 (show w.heap.size + 1 ≠ b + 1 by omega) (.int .u64 (h2 0)) (.int .u64 (h2 1)) (.int .u64 (h2 2)) (.int .u64 (h2 3)) (.int .u64 (h2 4)) (.int .u64 (h2 5))
      have M4 : Hid _ := m4
      have B4 : Hid _ := b4
      have Q4 : Hid _ := q4
      have S4 : Hid _ := s4
      have R2 : Hid _ := r2
      have V2 : Hid _ := v2'
      have hb1 := (N0 j (by omega)).out
      have hh := nat_half E j
      have RK : Hid _ := rk
      have VK : Hid _ := vk
      clear k2 q2 s2 m4 b4 q4 s4 r2 l2 v2 v2' M1 x0 x1 x2 x3 x4 x5 b2 hbel hR hK hH rh vh rk vk bl
      go_wp2_with fail
      generalize (((((w2.setCell ⟨b + 1, 0, none⟩ (.int .u64 (h2 0))).setCell ⟨b + 1, 1, none⟩ (.int .u64 (h2 1))).setCell ⟨b + 1, 2, none⟩ (.int .u64 (h2 2))).setCell ⟨b + 1, 3, none⟩ (.int .u64 (h2 3))).setCell ⟨b + 1, 4, none⟩ (.int .u64 (h2 4))).setCell ⟨b + 1, 5, none⟩ (.int .u64 (h2 5)) = W4 at *
      have KB : Hid _ := bitAt_any p n c g j W4 (by omega) (by omega) (AtK.below HE.out B4.out) HRG.out
      rw [hb1] at KB
      clear hb1 y0 y1 y2 y3 y4 y5 z0 z1 z2 z3 z4 z5
      rcases (show E / 2 ^ j % 2 = 0 ∨ E / 2 ^ j % 2 = 1 by omega) with h0 | h1
      · rw [h0] at KB
        have VF : Hid (val h2 6 = val f 6 ^ (E / 2 ^ j) * pw 6 % RI) := by
          show _ = _
          have e : E / 2 ^ j = 2 * (E / 2 ^ (j + 1)) := by rw [h0] at hh; exact hh
          rw [V2.out, e]
        clear hh h0
        refine Calls.mono KB.out ?_
        rintro e w5 ⟨rfl, rfl⟩
        go_wp2
        go_step3
        refine Or.inr ⟨rfl, ⟨j, b, k, h2, _, _, _, _, _, _, _, _, _, _, _, _, _, _, _, _, _, _, _, _, _, _, _, _, _, _, _, _, _, _, _, _, _, _, rfl, trivial, by omega, hb, B4.out, S4.out, Q4.out, RK.out, VK.out, M4.out, R2.out, VF.out⟩, ?_⟩
        simp [slot, intOf]
      · rw [h1] at KB
        have VF : Hid (∀ x, 0 ≤ x → x < RI → x * pw 6 % RI = val h2 6 * val k 6 % RI → x = val f 6 ^ (E / 2 ^ j) * pw 6 % RI) := fun x x0 x1 hx => by
          have e := times_num hx V2.out VK.out x0 x1
          rw [← Int.pow_succ] at e
          rw [hh, h1]; exact e
        clear hh h1
        refine Calls.mono KB.out ?_
        rintro e w5 ⟨rfl, rfl⟩
        obtain ⟨x0, x1, x2, x3, x4, x5⟩ := MutK.cells6 M4.out
        obtain ⟨a0, a1, a2, a3, a4, a5⟩ := MutK.cells6 Q4.out
        have M2 : Hid _ := fun w => times_any h2 k w R2.out RK.out (by rw [VK.out]; exact modR_lt _)
        have bl : b + 1 < w5.heap.size := cell_lt x0
        have BL : Hid _ := bl
        clear bl
        go_wp2_with fail
        refine Calls.mono (M2.out _) ?_
        rintro e w6 ⟨h6, rfl, r6, l6, v6, b6⟩
        have k6 := MutK.below M4.out b6 BL.out
        have q6 := MutK.below Q4.out b6 (by have := BL.out; omega)
        have s6 := MutK.below S4.out b6 (by have := BL.out; omega)
        obtain ⟨y0, y1, y2, y3, y4, y5⟩ := k6.cells6
        obtain ⟨z0, z1, z2, z3, z4, z5⟩ := k6.free6
        have M6 : Hid _ := mut_set6 k6 h6
        have B6 : Hid _ := below_set6 (Below.up B4.out (Nat.le_refl _) b6) (show w.heap.size ≤ b + 1 by omega) (.int .u64 (h6 0)) (.int .u64 (h6 1)) (.int .u64 (h6 2)) (.int .u64 (h6 3)) (.int .u64 (h6 4)) (.int .u64 (h6 5))
        have Q6 : Hid _ := mut_not6 q6 (show b ≠ b + 1 by omega) (.int .u64 (h6 0)) (.int .u64 (h6 1)) (.int .u64 (h6 2)) (.int .u64 (h6 3)) (.int .u64 (h6 4)) (.int .u64 (h6 5))
        have S6 : Hid _ := mut_not6 s6 (show w.heap.size + 1 ≠ b + 1 by omega) (.int .u64 (h6 0)) (.int .u64 (h6 1)) (.int .u64 (h6 2)) (.int .u64 (h6 3)) (.int .u64 (h6 4)) (.int .u64 (h6 5))
        have R6 : Hid _ := r6
        have V6 : Hid _ := VF.out _ (val_bd r6).1 l6 v6
        clear k6 q6 s6 r6 l6 v6 b6 M2 x0 x1 x2 x3 x4 x5 a0 a1 a2 a3 a4 a5 M4 B4 Q4 S4 BL
        go_wp2
        go_step3
        refine Or.inr ⟨rfl, ⟨j, b, k, h6, _, _, _, _, _, _, _, _, _, _, _, _, _, _, _, _, _, _, _, _, _, _, _, _, _, _, _, _, _, _, _, _, _, _, rfl, trivial, by omega, hb, B6.out, S6.out, Q6.out, RK.out, VK.out, M6.out, R6.out, V6.out⟩, ?_⟩
        simp [slot, intOf]
  · clear hF hR B1 z1 hgl KL KO hg NT rf
    rintro hr a' W ⟨L, b, k, h, u8, u9, u10, u11, u12, u13, u14, u15, u16, u17, u18, u19, u20, u21, u22, u23, u24, u25, u26, u27, u28, u29, u30, u31, u32, u33, u34, u35, u36, u37, u38, u39, u40, u41, rfl, hz, hL, hb, hbel, hR, hK, rk, vk, hH, rh, vh⟩
    have J : Hid _ := And.intro hb (And.intro hbel (And.intro hR (And.intro hK (And.intro rk (And.intro vk (And.intro hH (And.intro rh vh)))))))
    have JB := hbel
    clear hb hR hK rk vk hH rh vh hbel
    cases L with
    | zero =>
      clear JB
      go_wp2
      go_step3
      rename_i K hK
      exact hK _ _ (hr _ _ _ ⟨0, b, k, h, _, _, _, _, _, _, _, _, _, _, _, _, _, _, _, _, _, _, _, _, _, _, _, _, _, _, _, _, _, _, _, _, _, _, rfl, trivial, by omega, J.out.1, J.out.2.1, J.out.2.2.1, J.out.2.2.2.1, J.out.2.2.2.2.1, J.out.2.2.2.2.2.1, J.out.2.2.2.2.2.2.1, J.out.2.2.2.2.2.2.2.1, J.out.2.2.2.2.2.2.2.2⟩)
    | succ j =>
      have KB : Hid _ := bitAt_any p n c g j W (by omega) (by omega) (AtK.below HE.out JB) HRG.out
      rw [(N0 j (by omega)).out] at KB
      have hh := nat_half E j
      clear JB
      rcases (show E / 2 ^ j % 2 = 0 ∨ E / 2 ^ j % 2 = 1 by omega) with h0 | h1
      · rw [h0] at KB
        have e1 : E / 2 ^ j = 0 := by rw [h0, hz] at hh; exact hh
        have e2 : val f 6 ^ (E / 2 ^ (j + 1)) = val f 6 ^ (E / 2 ^ j) := by rw [hz, e1]
        have E1 : Hid _ := e1
        have E2 : Hid _ := e2
        clear hh h0 hz e1 e2
        go_wp2_with (go_at_call 72; refine Calls.mono KB.out ?_; rintro e w5 ⟨rfl, rfl⟩)
        go_step3
        refine Or.inl ⟨rfl, ⟨j, b, k, h, _, _, _, _, _, _, _, _, _, _, _, _, _, _, _, _, _, _, _, _, _, _, _, _, _, _, _, _, _, _, _, _, _, _, rfl, E1.out, by omega, J.out.1, J.out.2.1, J.out.2.2.1, J.out.2.2.2.1, J.out.2.2.2.2.1, J.out.2.2.2.2.2.1, J.out.2.2.2.2.2.2.1, J.out.2.2.2.2.2.2.2.1, by rw [← E2.out]; exact J.out.2.2.2.2.2.2.2.2⟩, ?_⟩
        simp [slot, intOf]
      · rw [h1] at KB
        clear hh h1 hz
        go_wp2_with (go_at_call 72; refine Calls.mono KB.out ?_; rintro e w5 ⟨rfl, rfl⟩)
        go_step3
        rename_i K hK
        exact hK _ _ (hr _ _ _ ⟨j + 1, b, k, h, _, _, _, _, _, _, _, _, _, _, _, _, _, _, _, _, _, _, _, _, _, _, _, _, _, _, _, _, _, _, _, _, _, _, rfl, trivial, by omega, J.out.1, J.out.2.1, J.out.2.2.1, J.out.2.2.2.1, J.out.2.2.2.2.1, J.out.2.2.2.2.2.1, J.out.2.2.2.2.2.2.1, J.out.2.2.2.2.2.2.2.1, J.out.2.2.2.2.2.2.2.2⟩)
  · intro hr
    go_wp2_with fail
    generalize (w.alloc (.cells #[.int .u64 (f 0), .int .u64 (f 1), .int .u64 (f 2), .int .u64 (f 3), .int .u64 (f 4), .int .u64 (f 5)] 24)).alloc (.cells #[.int .u64 0, .int .u64 0, .int .u64 0, .int .u64 0, .int .u64 0, .int .u64 0] 24) = W at *
    refine Calls.mono (KL.out f _ hgl rf) ?_
    rintro e w1 ⟨h1, rfl, r1, v1, b1⟩
    go_wp2_with fail
    refine Calls.mono (KO.out _) ?_
    rintro e w2 ⟨h2, rfl, r2, v2, b2⟩
    go_wp2_with fail
    refine Calls.mono (KL.out h2 _ ((hgl.stay b1).stay b2) r2) ?_
    rintro e w3 ⟨h3, rfl, r3, v3, b3⟩
    have b4 := Below.up (Below.up b1 (Nat.le_refl _) b2) (Nat.le_refl _) b3
    have m1 := mut_four w3 h1 24
    have m1' := m1.below (below_one (w3.alloc (.cells #[.int .u64 (h1 0), .int .u64 (h1 1), .int .u64 (h1 2), .int .u64 (h1 3), .int .u64 (h1 4), .int .u64 (h1 5)] 24)) (.cells #[.int .u64 (h3 0), .int .u64 (h3 1), .int .u64 (h3 2), .int .u64 (h3 3), .int .u64 (h3 4), .int .u64 (h3 5)] 24)) (by rw [World.size_alloc]; omega)
    have m3 := mut_four (w3.alloc (.cells #[.int .u64 (h1 0), .int .u64 (h1 1), .int .u64 (h1 2), .int .u64 (h1 3), .int .u64 (h1 4), .int .u64 (h1 5)] 24)) h3 24
    rw [World.size_alloc] at m3
    have c4 := Below.up b4 (Nat.le_refl _) (below_two w3 (.cells #[.int .u64 (h1 0), .int .u64 (h1 1), .int .u64 (h1 2), .int .u64 (h1 3), .int .u64 (h1 4), .int .u64 (h1 5)] 24) (.cells #[.int .u64 (h3 0), .int .u64 (h3 1), .int .u64 (h3 2), .int .u64 (h3 3), .int .u64 (h3 4), .int .u64 (h3 5)] 24))
    have hR' := hR.below c4 (by rw [z1]; omega)
    have c5 := Below.up B1 (Nat.le_refl _) c4
    have lb : w.heap.size + 2 ≤ w3.heap.size := by have := b4.size; omega
    have V3 : Hid (val h3 6 = val f 6 ^ (E / 2 ^ (64 * n)) * pw 6 % RI) := by
      show _ = _
      rw [v3, v2, NT.out, Int.pow_zero]
    have HJ : Hid _ := And.intro c5 (And.intro hR' (And.intro m1' (And.intro r1 (And.intro v1 (And.intro m3 r3)))))
    clear b1 b2 b3 b4 m1 m1' m3 c4 c5 hR hR' v1 v2 v3 r1 r2 r3 B1 hF
    go_wp2_with fail
    go_step3
    rename_i K hK
    exact hK _ _ (hr _ _ ⟨64 * n, w3.heap.size, h1, h3, _, _, _, _, _, _, _, _, _, _, _, _, _, _, _, _, _, _, _, _, _, _, _, _, _, _, _, _, _, _, _, _, _, _, by first | rfl | (congr 1), NT.out, Nat.le_refl _, lb, HJ.out.1, HJ.out.2.1, HJ.out.2.2.1, HJ.out.2.2.2.1, HJ.out.2.2.2.2.1, HJ.out.2.2.2.2.2.1, HJ.out.2.2.2.2.2.2, V3.out⟩)
end Go.Proofs.YtgoghcmnnhglhaaDoor.fpn

/- Whole numbers in a plan; a slice's length; the bit of an exponent. -/
namespace Go.Proofs.YtgoghcmnnhglhaaDoor.Pl
open Go Go.RowKit
set_option linter.unusedVariables false
set_option linter.unusedSimpArgs false
section
variable {P : Program} {ops : Array Oper} {ks : List Kind} {T : List Nat} {a0 : Act} {B : Nat} {w0 : World} {H : List (Nat × List Value)} {i : Nat} {o : Oper}
/-- A slice's length. -/
theorem ob_len {x : Operand} {t e : TypeId} {p : Option Addr} {n c : Nat} (hw : ∀ L, wantedR ks L o = true) (hk : kd ks i = .det (.int .i64 n)) (ho : o.op = .call { callee := .builtin .len, args := #[x], argTypes := #[t] })
    (hx : ∀ L, rd ops ks T a0 L i x = .slice p n c) (hu : P.underlying t = some (.slice e)) : Ob P ops ks T a0 B w0 H i o :=
  ob_pure hw hk fun L w => by
    unfold execOp
    simp [ho, resolve, hx L, invoke, builtin, Builtin.len_, Sem.run_bind, run_underlying hu w, goInt]
theorem sub1 (t : TypeId) (j : Nat) (h : j < 1000000) (w : World) : (binOp .sub t (.int .i64 ((j + 1 : Nat) : Int)) (.int .i64 1)).run P w = .ok (.int .i64 (j : Int)) w := by
  have e : IntKind.i64.wrap ((((j + 1 : Nat) : Int)) - 1) = (j : Int) := by unfold IntKind.wrap; simp [IntKind.bits, IntKind.signed]; omega
  simp only [binOp, Op.intArith, e]; simp [Sem.run_bind, e]
theorem sub3 (t : TypeId) (j : Nat) (h : j < 1000000) (w : World) : (binOp .sub t (.int .i64 (j : Int)) (.int .i64 1)).run P w = .ok (.int .i64 ((j : Int) - 1)) w := by
  have e : IntKind.i64.wrap ((j : Int) - 1) = (j : Int) - 1 := by unfold IntKind.wrap; simp [IntKind.bits, IntKind.signed]; omega
  simp only [binOp, Op.intArith, e]; simp [Sem.run_bind, e]
theorem mul64 (t : TypeId) (n : Nat) (h : n ≤ 1000) (w : World) : (binOp .mul t (.int .i64 64) (.int .i64 (n : Int))).run P w = .ok (.int .i64 ((64 * n : Nat) : Int)) w := by
  have e : IntKind.i64.wrap (64 * (n : Int)) = ((64 * n : Nat) : Int) := by unfold IntKind.wrap; simp [IntKind.bits, IntKind.signed]; omega
  simp only [binOp, Op.intArith, e]; simp [Sem.run_bind, e]
theorem gtrI (t : TypeId) (a b : Int) (w : World) : (binOp .gtr t (.int .i64 a) (.int .i64 b)).run P w = .ok (.bool (decide (a > b))) w := by
  simp [binOp, Sem.run_bind, Op.intCmp]
theorem geqI (t : TypeId) (a b : Int) (w : World) : (binOp .geq t (.int .i64 a) (.int .i64 b)).run P w = .ok (.bool (decide (a ≥ b))) w := by
  simp [binOp, Sem.run_bind, Op.intCmp]
end
end Go.Proofs.YtgoghcmnnhglhaaDoor.Pl
namespace Go.Proofs.YtgoghcmnnhglhaaDoor.fpn
open Go.RowKit
set_option linter.unusedVariables false

theorem bitAt2 (p : Option Addr) (n c : Nat) (g : Nat → Int) (j : Nat) (w : World) (hj : j < 64 * n) (hn : n ≤ 1000) (h : At w p n g) (rg : Rg g n) :
    Calls Tryd.prog 49 #[.slice p n c, .int .i64 j] w fun e w' => e = .returned (.int .u64 (g (j / 64) / 2 ^ (j % 64) % 2)) ∧ w' = w := by
  obtain ⟨b, off, rfl, hcell⟩ := h (by omega)
  have hm1 := hcell (j / 64) (by omega)
  have r := rg (j / 64) (by omega)
  have hbit : bits BinOp.and IntKind.u64 (g (j / 64) / 2 ^ (j % 64)) 1 = g (j / 64) / 2 ^ (j % 64) % 2 := and_one _ (Int.ediv_nonneg r.1 (Int.le_of_lt (Int.pow_pos (by decide)))) (by
    have := Int.ediv_le_self (2 ^ (j % 64)) r.1
    rw [B64_eq] at r
    omega)
  have HB : Hid _ := hbit
  have i1 : (j : Int) / 64 < (n : Int) := by omega
  clear hcell h hbit r rg
  go_enter Tryd.func49, Tryd.ntmps49
  go_wp2
  go_ret
  exact ⟨ret_int HB.out, rfl⟩

/-- The bit of an exponent. -/
theorem bitAtN (p : Option Addr) (n c : Nat) (g : Nat → Int) (E j : Nat) (w : World) (hj : j < 64 * n) (hn : n ≤ 1000) (h : At w p n g) (rg : Rg g n) (hE : val g n = (E : Int)) {r : Nat} (hr : E / 2 ^ j % 2 = r) :
    Calls Tryd.prog 49 #[.slice p n c, .int .i64 j] w (Ret (.int .u64 r) w) :=
  Calls.mono (bitAt2 p n c g j w hj hn h rg) fun e w' ⟨h1, h2⟩ => ⟨by rw [h1, nat_bit rg hE hj, hr], by rw [h2]; exact Below.refl _ _⟩

theorem bitR (p : Option Addr) (n c : Nat) (g : Nat → Int) (j : Nat) (w : World) (hj : j < 64 * n) (hn : n ≤ 1000) (h : At w p n g) (rg : Rg g n) :
    Calls Tryd.prog 51 #[.slice p n c, .int .i64 j] w fun e w' => e = .returned (.bool (decide (g (j / 64) / 2 ^ (j % 64) % 2 = 1))) ∧ w' = w := by
  obtain ⟨b, off, rfl, hcell⟩ := h (by omega)
  have hm1 := hcell (j / 64) (by omega)
  have r := rg (j / 64) (by omega)
  have hbit : bits BinOp.and IntKind.u64 (g (j / 64) / 2 ^ (j % 64)) 1 = g (j / 64) / 2 ^ (j % 64) % 2 := and_one _ (Int.ediv_nonneg r.1 (Int.le_of_lt (Int.pow_pos (by decide)))) (by
    have := Int.ediv_le_self (2 ^ (j % 64)) r.1
    rw [B64_eq] at r
    omega)
  have HB : Hid _ := hbit
  have i1 : (j : Int) / 64 < (n : Int) := by omega
  clear hcell h hbit r rg
  go_enter Tryd.func51, Tryd.ntmps51
  go_wp2
  go_ret
  refine ⟨?_, rfl⟩
  have hh := HB.out
  rw [hh]
  simp only [Ending.returned.injEq]
  first | rfl | exact Bool.beq_eq_decide_eq _ _

theorem bitRN (p : Option Addr) (n c : Nat) (g : Nat → Int) (E j : Nat) (w : World) (hj : j < 64 * n) (hn : n ≤ 1000) (h : At w p n g) (rg : Rg g n) (hE : val g n = (E : Int)) {r : Bool} (hr : decide (E / 2 ^ j % 2 = 1) = r) :
    Calls Tryd.prog 51 #[.slice p n c, .int .i64 j] w (Ret (.bool r) w) :=
  Calls.mono (bitR p n c g j w hj hn h rg) fun e w' ⟨h1, h2⟩ => ⟨by
    rw [h1, nat_bit rg hE hj, ← hr]
    congr 3
    rcases (show E / 2 ^ j % 2 = 0 ∨ E / 2 ^ j % 2 = 1 by omega) with h | h <;> simp [h], by rw [h2]; exact Below.refl _ _⟩
end Go.Proofs.YtgoghcmnnhglhaaDoor.fpn

/- Package fp2: sums, products and what is made of them. -/
namespace Go.Proofs.YtgoghcmnnhglhaaDoor.fpn
open Go.RowKit Pl
set_option linter.unusedVariables false
set_option linter.unusedSimpArgs false
set_option maxRecDepth 4000

set_option maxHeartbeats 4000000 in
theorem fp2Neg {G : World → Prop} (K : FpK G) (x : F2) (w : World) (hg : G w) : Calls Tryd.prog 16 #[PV x] w (Ret (PV (-x)) w) := by
  have hp0 := Heap.start w
  go_enter Tryd.func16, Tryd.ntmps16
  refine wp_seq_k (fun K1 k1 => ?_)
  refine goes (ks := [.alloc (PC x), .alloc (PC 0)]) (T := [0, 0]) (nt := 10) (nh := 0) (H := []) (A := fun L => [PV x, .pointer (some ⟨L.b 0, 0, none⟩), .pointer (some ⟨L.b 1, 0, none⟩), undef, undef, undef, undef, undef, undef, undef]) (H' := fun L => [(L.b 0, PC x), (L.b 1, PC 0)]) (by kernel_rfl) rfl rfl rfl (fun L => by kernel_rfl) (fun L => by kernel_rfl) hp0 ⟨
    ob_box (v := PV x) (fun _ => rfl) rfl rfl (fun _ => by kernel_rfl) rfl,
    ob_alloc (v := PV 0) (fun _ => rfl) rfl rfl zeroP rfl,
    trivial⟩ (fun L0 w1 hp1 => ?_)
  refine k1 _ _ ?_
  refine wp_seq_k (fun K2 k2 => ?_)
  refine draws (by kernel_rfl) (ks := [.det (.pointer (some ⟨(L0.b 0), 0, none⟩)), .det (FV x.c0), .det (FV ((-x.c0))), .det (.pointer (some ⟨(L0.b 0), 6, none⟩)), .det (FV x.c1), .det (FV ((-x.c1))), .det (PV (⟨(-x.c0), (-x.c1)⟩)), .store (.base 1) 0 (PC (⟨(-x.c0), (-x.c1)⟩)) (PC (⟨(-x.c0), (-x.c1)⟩))]) (T := [0, 1, 3, 0, 8, 31, 63, 127]) (nt := 10) (nh := 2) (H := [((L0.b 0), PC x), ((L0.b 1), PC 0)]) (A := fun L => [PV x, .pointer (some ⟨(L0.b 0), 0, none⟩), .pointer (some ⟨(L0.b 1), 0, none⟩), .pointer (some ⟨(L0.b 0), 0, none⟩), FV x.c0, FV ((-x.c0)), .pointer (some ⟨(L0.b 0), 6, none⟩), FV x.c1, FV ((-x.c1)), PV (⟨(-x.c0), (-x.c1)⟩)]) (H' := fun L => [((L0.b 0), PC x), ((L0.b 1), PC (⟨(-x.c0), (-x.c1)⟩))]) (by kernel_rfl) rfl rfl rfl (fun L => by kernel_rfl) (fun L => by kernel_rfl) hp1 ⟨
    ob_index (b := (L0.b 0)) (off := 0) (k := 0) (sz := 6) (n := 2) (fun _ => rfl) rfl rfl (fun _ => by kernel_rfl) (fun _ => by kernel_rfl) Tryd.underlying26 sizeF (by decide) rfl,
    ob_load (b := (L0.b 0)) (off := 0) (cs := FC x.c0) (by kernel_rfl) (fun _ => rfl) rfl rfl (fun _ => by kernel_rfl) (fun _ _ hs => partF2_0 (seen_at (k := 0) hs rfl)) Tryd.underlying24 rfl (sizeFC _),
    ob_call (vs := #[FV x.c0]) (by kernel_rfl) (by kernel_rfl) (fun _ => rfl) rfl rfl (fun _ => by kernel_rfl) (fun w hb _ => K.neg _ w (K.stay hg hb)),
    ob_index (b := (L0.b 0)) (off := 0) (k := 1) (sz := 6) (n := 2) (fun _ => rfl) rfl rfl (fun _ => by kernel_rfl) (fun _ => by kernel_rfl) Tryd.underlying26 sizeF (by decide) rfl,
    ob_load (b := (L0.b 0)) (off := 6) (cs := FC x.c1) (by kernel_rfl) (fun _ => rfl) rfl rfl (fun _ => by kernel_rfl) (fun _ _ hs => partF2_1 (seen_at (k := 0) hs rfl)) Tryd.underlying24 rfl (sizeFC _),
    ob_call (vs := #[FV x.c1]) (by kernel_rfl) (by kernel_rfl) (fun _ => rfl) rfl rfl (fun _ => by kernel_rfl) (fun w hb _ => K.neg _ w (K.stay hg hb)),
    ob_build (qs := #[(0, FV ((-x.c0))), (1, FV ((-x.c1)))]) (fun _ => rfl) rfl rfl (fun _ => by kernel_rfl) (buildP _ _),
    ob_store (old := PC 0) (fun _ => rfl) rfl rfl (fun _ => by kernel_rfl) (fun _ => by kernel_rfl) rfl (sizePC _) (PC_one _) (le_len (PC_len _) (PC_len _) (by decide)) (splice_all ((PC_len _).trans (PC_len _).symm)).symm,
    trivial⟩ (fun L1 w2 hp2 => ?_)
  refine k2 _ _ ?_
  refine wp_ret ?_
  exact bodyPost_ret (v := PV (⟨(-x.c0), (-x.c1)⟩)) (res_c rfl (by kernel_rfl) (hp2.bound 1 rfl).2 Tryd.underlying26 rfl (sizePC _)) rfl ⟨rfl, hp2.bel⟩
set_option maxHeartbeats 4000000 in
theorem fp2Mul {G : World → Prop} (K : FpK G) (x y : F2) (w : World) (hg : G w) : Calls Tryd.prog 18 #[PV x, PV y] w (Ret (PV (x * y)) w) := by
  have hp0 := Heap.start w
  go_enter Tryd.func18, Tryd.ntmps18
  refine wp_seq_k (fun K1 k1 => ?_)
  refine goes (ks := [.alloc (PC x), .alloc (PC y), .alloc (PC 0)]) (T := [0, 0, 0]) (nt := 38) (nh := 0) (H := []) (A := fun L => [PV x, PV y, .pointer (some ⟨L.b 0, 0, none⟩), .pointer (some ⟨L.b 1, 0, none⟩), .pointer (some ⟨L.b 2, 0, none⟩), undef, undef, undef, undef, undef, undef, undef, undef, undef, undef, undef, undef, undef, undef, undef, undef, undef, undef, undef, undef, undef, undef, undef, undef, undef, undef, undef, undef, undef, undef, undef, undef, undef]) (H' := fun L => [(L.b 0, PC x), (L.b 1, PC y), (L.b 2, PC 0)]) (by kernel_rfl) rfl rfl rfl (fun L => by kernel_rfl) (fun L => by kernel_rfl) hp0 ⟨
    ob_box (v := PV x) (fun _ => rfl) rfl rfl (fun _ => by kernel_rfl) rfl,
    ob_box (v := PV y) (fun _ => rfl) rfl rfl (fun _ => by kernel_rfl) rfl,
    ob_alloc (v := PV 0) (fun _ => rfl) rfl rfl zeroP rfl,
    trivial⟩ (fun L0 w1 hp1 => ?_)
  refine k1 _ _ ?_
  refine wp_seq_k (fun K2 k2 => ?_)
  refine draws (by kernel_rfl) (ks := [.det (.pointer (some ⟨(L0.b 0), 0, none⟩)), .det (FV x.c0), .det (.pointer (some ⟨(L0.b 1), 0, none⟩)), .det (FV y.c0), .det (FV ((x.c0 * y.c0))), .det (.pointer (some ⟨(L0.b 0), 6, none⟩)), .det (FV x.c1), .det (.pointer (some ⟨(L0.b 1), 6, none⟩)), .det (FV y.c1), .det (FV ((x.c1 * y.c1))), .alloc (FC 0), .alloc (FC 0), .store (.new 10) 0 (FC ((x.c0 * y.c0))) (FC ((x.c0 * y.c0))), .store (.new 11) 0 (FC ((x.c1 * y.c1))) (FC ((x.c1 * y.c1)))]) (T := [0, 1, 0, 4, 15, 0, 32, 0, 128, 511, 0, 0, 4095, 8191]) (nt := 38) (nh := 3) (H := [((L0.b 0), PC x), ((L0.b 1), PC y), ((L0.b 2), PC 0)]) (A := fun L => [PV x, PV y, .pointer (some ⟨(L0.b 0), 0, none⟩), .pointer (some ⟨(L0.b 1), 0, none⟩), .pointer (some ⟨(L0.b 2), 0, none⟩), .pointer (some ⟨L.b 10, 0, none⟩), .pointer (some ⟨L.b 11, 0, none⟩), undef, .pointer (some ⟨(L0.b 0), 0, none⟩), FV x.c0, .pointer (some ⟨(L0.b 1), 0, none⟩), FV y.c0, FV ((x.c0 * y.c0)), .pointer (some ⟨(L0.b 0), 6, none⟩), FV x.c1, .pointer (some ⟨(L0.b 1), 6, none⟩), FV y.c1, FV ((x.c1 * y.c1)), undef, undef, undef, undef, undef, undef, undef, undef, undef, undef, undef, undef, undef, undef, undef, undef, undef, undef, undef, undef]) (H' := fun L => [((L0.b 0), PC x), ((L0.b 1), PC y), ((L0.b 2), PC 0), (L.b 10, FC ((x.c0 * y.c0))), (L.b 11, FC ((x.c1 * y.c1)))]) (by kernel_rfl) rfl rfl rfl (fun L => by kernel_rfl) (fun L => by kernel_rfl) hp1 ⟨
    ob_index (b := (L0.b 0)) (off := 0) (k := 0) (sz := 6) (n := 2) (fun _ => rfl) rfl rfl (fun _ => by kernel_rfl) (fun _ => by kernel_rfl) Tryd.underlying26 sizeF (by decide) rfl,
    ob_load (b := (L0.b 0)) (off := 0) (cs := FC x.c0) (by kernel_rfl) (fun _ => rfl) rfl rfl (fun _ => by kernel_rfl) (fun _ _ hs => partF2_0 (seen_at (k := 0) hs rfl)) Tryd.underlying24 rfl (sizeFC _),
    ob_index (b := (L0.b 1)) (off := 0) (k := 0) (sz := 6) (n := 2) (fun _ => rfl) rfl rfl (fun _ => by kernel_rfl) (fun _ => by kernel_rfl) Tryd.underlying26 sizeF (by decide) rfl,
    ob_load (b := (L0.b 1)) (off := 0) (cs := FC y.c0) (by kernel_rfl) (fun _ => rfl) rfl rfl (fun _ => by kernel_rfl) (fun _ _ hs => partF2_0 (seen_at (k := 1) hs rfl)) Tryd.underlying24 rfl (sizeFC _),
    ob_call (vs := #[FV x.c0, FV y.c0]) (by kernel_rfl) (by kernel_rfl) (fun _ => rfl) rfl rfl (fun _ => by kernel_rfl) (fun w hb _ => K.mul _ _ w (K.stay hg hb)),
    ob_index (b := (L0.b 0)) (off := 0) (k := 1) (sz := 6) (n := 2) (fun _ => rfl) rfl rfl (fun _ => by kernel_rfl) (fun _ => by kernel_rfl) Tryd.underlying26 sizeF (by decide) rfl,
    ob_load (b := (L0.b 0)) (off := 6) (cs := FC x.c1) (by kernel_rfl) (fun _ => rfl) rfl rfl (fun _ => by kernel_rfl) (fun _ _ hs => partF2_1 (seen_at (k := 0) hs rfl)) Tryd.underlying24 rfl (sizeFC _),
    ob_index (b := (L0.b 1)) (off := 0) (k := 1) (sz := 6) (n := 2) (fun _ => rfl) rfl rfl (fun _ => by kernel_rfl) (fun _ => by kernel_rfl) Tryd.underlying26 sizeF (by decide) rfl,
    ob_load (b := (L0.b 1)) (off := 6) (cs := FC y.c1) (by kernel_rfl) (fun _ => rfl) rfl rfl (fun _ => by kernel_rfl) (fun _ _ hs => partF2_1 (seen_at (k := 1) hs rfl)) Tryd.underlying24 rfl (sizeFC _),
    ob_call (vs := #[FV x.c1, FV y.c1]) (by kernel_rfl) (by kernel_rfl) (fun _ => rfl) rfl rfl (fun _ => by kernel_rfl) (fun w hb _ => K.mul _ _ w (K.stay hg hb)),
    ob_alloc (v := FV 0) (fun _ => rfl) rfl rfl zeroF rfl,
    ob_alloc (v := FV 0) (fun _ => rfl) rfl rfl zeroF rfl,
    ob_store (old := FC 0) (fun _ => rfl) rfl rfl (fun _ => by kernel_rfl) (fun _ => by kernel_rfl) rfl (sizeFC _) (FC_one _) (le_len (FC_len _) (FC_len _) (by decide)) (splice_all ((FC_len _).trans (FC_len _).symm)).symm,
    ob_store (old := FC 0) (fun _ => rfl) rfl rfl (fun _ => by kernel_rfl) (fun _ => by kernel_rfl) rfl (sizeFC _) (FC_one _) (le_len (FC_len _) (FC_len _) (by decide)) (splice_all ((FC_len _).trans (FC_len _).symm)).symm,
    trivial⟩ (fun L1 w2 hp2 => ?_)
  refine k2 _ _ ?_
  refine wp_seq_k (fun K3 k3 => ?_)
  refine draws (by kernel_rfl) (ks := [.det (.pointer (some ⟨(L0.b 0), 0, none⟩)), .det (FV x.c0), .det (.pointer (some ⟨(L0.b 0), 6, none⟩)), .det (FV x.c1), .det (FV ((x.c0 + x.c1))), .det (.pointer (some ⟨(L0.b 1), 0, none⟩)), .det (FV y.c0), .det (.pointer (some ⟨(L0.b 1), 6, none⟩)), .det (FV y.c1), .det (FV ((y.c0 + y.c1))), .det (FV (((x.c0 + x.c1) * (y.c0 + y.c1)))), .alloc (FC 0), .store (.new 11) 0 (FC (((x.c0 + x.c1) * (y.c0 + y.c1)))) (FC (((x.c0 + x.c1) * (y.c0 + y.c1))))]) (T := [0, 1, 0, 4, 15, 0, 32, 0, 128, 511, 1023, 0, 4095]) (nt := 38) (nh := 5) (H := [((L0.b 0), PC x), ((L0.b 1), PC y), ((L0.b 2), PC 0), ((L1.b 10), FC ((x.c0 * y.c0))), ((L1.b 11), FC ((x.c1 * y.c1)))]) (A := fun L => [PV x, PV y, .pointer (some ⟨(L0.b 0), 0, none⟩), .pointer (some ⟨(L0.b 1), 0, none⟩), .pointer (some ⟨(L0.b 2), 0, none⟩), .pointer (some ⟨(L1.b 10), 0, none⟩), .pointer (some ⟨(L1.b 11), 0, none⟩), .pointer (some ⟨L.b 11, 0, none⟩), .pointer (some ⟨(L0.b 0), 0, none⟩), FV x.c0, .pointer (some ⟨(L0.b 1), 0, none⟩), FV y.c0, FV ((x.c0 * y.c0)), .pointer (some ⟨(L0.b 0), 6, none⟩), FV x.c1, .pointer (some ⟨(L0.b 1), 6, none⟩), FV y.c1, FV ((x.c1 * y.c1)), .pointer (some ⟨(L0.b 0), 0, none⟩), FV x.c0, .pointer (some ⟨(L0.b 0), 6, none⟩), FV x.c1, FV ((x.c0 + x.c1)), .pointer (some ⟨(L0.b 1), 0, none⟩), FV y.c0, .pointer (some ⟨(L0.b 1), 6, none⟩), FV y.c1, FV ((y.c0 + y.c1)), FV (((x.c0 + x.c1) * (y.c0 + y.c1))), undef, undef, undef, undef, undef, undef, undef, undef, undef]) (H' := fun L => [((L0.b 0), PC x), ((L0.b 1), PC y), ((L0.b 2), PC 0), ((L1.b 10), FC ((x.c0 * y.c0))), ((L1.b 11), FC ((x.c1 * y.c1))), (L.b 11, FC (((x.c0 + x.c1) * (y.c0 + y.c1))))]) (by kernel_rfl) rfl rfl rfl (fun L => by kernel_rfl) (fun L => by kernel_rfl) hp2 ⟨
    ob_index (b := (L0.b 0)) (off := 0) (k := 0) (sz := 6) (n := 2) (fun _ => rfl) rfl rfl (fun _ => by kernel_rfl) (fun _ => by kernel_rfl) Tryd.underlying26 sizeF (by decide) rfl,
    ob_load (b := (L0.b 0)) (off := 0) (cs := FC x.c0) (by kernel_rfl) (fun _ => rfl) rfl rfl (fun _ => by kernel_rfl) (fun _ _ hs => partF2_0 (seen_at (k := 0) hs rfl)) Tryd.underlying24 rfl (sizeFC _),
    ob_index (b := (L0.b 0)) (off := 0) (k := 1) (sz := 6) (n := 2) (fun _ => rfl) rfl rfl (fun _ => by kernel_rfl) (fun _ => by kernel_rfl) Tryd.underlying26 sizeF (by decide) rfl,
    ob_load (b := (L0.b 0)) (off := 6) (cs := FC x.c1) (by kernel_rfl) (fun _ => rfl) rfl rfl (fun _ => by kernel_rfl) (fun _ _ hs => partF2_1 (seen_at (k := 0) hs rfl)) Tryd.underlying24 rfl (sizeFC _),
    ob_call (vs := #[FV x.c0, FV x.c1]) (by kernel_rfl) (by kernel_rfl) (fun _ => rfl) rfl rfl (fun _ => by kernel_rfl) (fun w hb _ => K.add _ _ w (K.stay hg hb)),
    ob_index (b := (L0.b 1)) (off := 0) (k := 0) (sz := 6) (n := 2) (fun _ => rfl) rfl rfl (fun _ => by kernel_rfl) (fun _ => by kernel_rfl) Tryd.underlying26 sizeF (by decide) rfl,
    ob_load (b := (L0.b 1)) (off := 0) (cs := FC y.c0) (by kernel_rfl) (fun _ => rfl) rfl rfl (fun _ => by kernel_rfl) (fun _ _ hs => partF2_0 (seen_at (k := 1) hs rfl)) Tryd.underlying24 rfl (sizeFC _),
    ob_index (b := (L0.b 1)) (off := 0) (k := 1) (sz := 6) (n := 2) (fun _ => rfl) rfl rfl (fun _ => by kernel_rfl) (fun _ => by kernel_rfl) Tryd.underlying26 sizeF (by decide) rfl,
    ob_load (b := (L0.b 1)) (off := 6) (cs := FC y.c1) (by kernel_rfl) (fun _ => rfl) rfl rfl (fun _ => by kernel_rfl) (fun _ _ hs => partF2_1 (seen_at (k := 1) hs rfl)) Tryd.underlying24 rfl (sizeFC _),
    ob_call (vs := #[FV y.c0, FV y.c1]) (by kernel_rfl) (by kernel_rfl) (fun _ => rfl) rfl rfl (fun _ => by kernel_rfl) (fun w hb _ => K.add _ _ w (K.stay hg hb)),
    ob_call (vs := #[FV ((x.c0 + x.c1)), FV ((y.c0 + y.c1))]) (by kernel_rfl) (by kernel_rfl) (fun _ => rfl) rfl rfl (fun _ => by kernel_rfl) (fun w hb _ => K.mul _ _ w (K.stay hg hb)),
    ob_alloc (v := FV 0) (fun _ => rfl) rfl rfl zeroF rfl,
    ob_store (old := FC 0) (fun _ => rfl) rfl rfl (fun _ => by kernel_rfl) (fun _ => by kernel_rfl) rfl (sizeFC _) (FC_one _) (le_len (FC_len _) (FC_len _) (by decide)) (splice_all ((FC_len _).trans (FC_len _).symm)).symm,
    trivial⟩ (fun L2 w3 hp3 => ?_)
  refine k3 _ _ ?_
  refine wp_seq_k (fun K4 k4 => ?_)
  refine draws (by kernel_rfl) (ks := [.det (FV ((x.c0 * y.c0))), .det (FV ((x.c1 * y.c1))), .det (FV (((x.c0 * y.c0) - (x.c1 * y.c1)))), .det (FV (((x.c0 + x.c1) * (y.c0 + y.c1)))), .det (FV ((x.c0 * y.c0))), .det (FV ((((x.c0 + x.c1) * (y.c0 + y.c1)) - (x.c0 * y.c0)))), .det (FV ((x.c1 * y.c1))), .det (FV (((((x.c0 + x.c1) * (y.c0 + y.c1)) - (x.c0 * y.c0)) - (x.c1 * y.c1)))), .det (PV (⟨((x.c0 * y.c0) - (x.c1 * y.c1)), ((((x.c0 + x.c1) * (y.c0 + y.c1)) - (x.c0 * y.c0)) - (x.c1 * y.c1))⟩)), .store (.base 2) 0 (PC (⟨((x.c0 * y.c0) - (x.c1 * y.c1)), ((((x.c0 + x.c1) * (y.c0 + y.c1)) - (x.c0 * y.c0)) - (x.c1 * y.c1))⟩)) (PC (⟨((x.c0 * y.c0) - (x.c1 * y.c1)), ((((x.c0 + x.c1) * (y.c0 + y.c1)) - (x.c0 * y.c0)) - (x.c1 * y.c1))⟩))]) (T := [0, 0, 3, 0, 0, 31, 0, 127, 255, 511]) (nt := 38) (nh := 6) (H := [((L0.b 0), PC x), ((L0.b 1), PC y), ((L0.b 2), PC 0), ((L1.b 10), FC ((x.c0 * y.c0))), ((L1.b 11), FC ((x.c1 * y.c1))), ((L2.b 11), FC (((x.c0 + x.c1) * (y.c0 + y.c1))))]) (A := fun L => [PV x, PV y, .pointer (some ⟨(L0.b 0), 0, none⟩), .pointer (some ⟨(L0.b 1), 0, none⟩), .pointer (some ⟨(L0.b 2), 0, none⟩), .pointer (some ⟨(L1.b 10), 0, none⟩), .pointer (some ⟨(L1.b 11), 0, none⟩), .pointer (some ⟨(L2.b 11), 0, none⟩), .pointer (some ⟨(L0.b 0), 0, none⟩), FV x.c0, .pointer (some ⟨(L0.b 1), 0, none⟩), FV y.c0, FV ((x.c0 * y.c0)), .pointer (some ⟨(L0.b 0), 6, none⟩), FV x.c1, .pointer (some ⟨(L0.b 1), 6, none⟩), FV y.c1, FV ((x.c1 * y.c1)), .pointer (some ⟨(L0.b 0), 0, none⟩), FV x.c0, .pointer (some ⟨(L0.b 0), 6, none⟩), FV x.c1, FV ((x.c0 + x.c1)), .pointer (some ⟨(L0.b 1), 0, none⟩), FV y.c0, .pointer (some ⟨(L0.b 1), 6, none⟩), FV y.c1, FV ((y.c0 + y.c1)), FV (((x.c0 + x.c1) * (y.c0 + y.c1))), FV ((x.c0 * y.c0)), FV ((x.c1 * y.c1)), FV (((x.c0 * y.c0) - (x.c1 * y.c1))), FV (((x.c0 + x.c1) * (y.c0 + y.c1))), FV ((x.c0 * y.c0)), FV ((((x.c0 + x.c1) * (y.c0 + y.c1)) - (x.c0 * y.c0))), FV ((x.c1 * y.c1)), FV (((((x.c0 + x.c1) * (y.c0 + y.c1)) - (x.c0 * y.c0)) - (x.c1 * y.c1))), PV (⟨((x.c0 * y.c0) - (x.c1 * y.c1)), ((((x.c0 + x.c1) * (y.c0 + y.c1)) - (x.c0 * y.c0)) - (x.c1 * y.c1))⟩)]) (H' := fun L => [((L0.b 0), PC x), ((L0.b 1), PC y), ((L0.b 2), PC (⟨((x.c0 * y.c0) - (x.c1 * y.c1)), ((((x.c0 + x.c1) * (y.c0 + y.c1)) - (x.c0 * y.c0)) - (x.c1 * y.c1))⟩)), ((L1.b 10), FC ((x.c0 * y.c0))), ((L1.b 11), FC ((x.c1 * y.c1))), ((L2.b 11), FC (((x.c0 + x.c1) * (y.c0 + y.c1))))]) (by kernel_rfl) rfl rfl rfl (fun L => by kernel_rfl) (fun L => by kernel_rfl) hp3 ⟨
    ob_load (b := (L1.b 10)) (off := 0) (cs := FC ((x.c0 * y.c0))) (by kernel_rfl) (fun _ => rfl) rfl rfl (fun _ => by kernel_rfl) (fun _ _ hs => (seen_at (k := 3) hs rfl).cells) Tryd.underlying24 rfl (sizeFC _),
    ob_load (b := (L1.b 11)) (off := 0) (cs := FC ((x.c1 * y.c1))) (by kernel_rfl) (fun _ => rfl) rfl rfl (fun _ => by kernel_rfl) (fun _ _ hs => (seen_at (k := 4) hs rfl).cells) Tryd.underlying24 rfl (sizeFC _),
    ob_call (vs := #[FV ((x.c0 * y.c0)), FV ((x.c1 * y.c1))]) (by kernel_rfl) (by kernel_rfl) (fun _ => rfl) rfl rfl (fun _ => by kernel_rfl) (fun w hb _ => K.sub _ _ w (K.stay hg hb)),
    ob_load (b := (L2.b 11)) (off := 0) (cs := FC (((x.c0 + x.c1) * (y.c0 + y.c1)))) (by kernel_rfl) (fun _ => rfl) rfl rfl (fun _ => by kernel_rfl) (fun _ _ hs => (seen_at (k := 5) hs rfl).cells) Tryd.underlying24 rfl (sizeFC _),
    ob_load (b := (L1.b 10)) (off := 0) (cs := FC ((x.c0 * y.c0))) (by kernel_rfl) (fun _ => rfl) rfl rfl (fun _ => by kernel_rfl) (fun _ _ hs => (seen_at (k := 3) hs rfl).cells) Tryd.underlying24 rfl (sizeFC _),
    ob_call (vs := #[FV (((x.c0 + x.c1) * (y.c0 + y.c1))), FV ((x.c0 * y.c0))]) (by kernel_rfl) (by kernel_rfl) (fun _ => rfl) rfl rfl (fun _ => by kernel_rfl) (fun w hb _ => K.sub _ _ w (K.stay hg hb)),
    ob_load (b := (L1.b 11)) (off := 0) (cs := FC ((x.c1 * y.c1))) (by kernel_rfl) (fun _ => rfl) rfl rfl (fun _ => by kernel_rfl) (fun _ _ hs => (seen_at (k := 4) hs rfl).cells) Tryd.underlying24 rfl (sizeFC _),
    ob_call (vs := #[FV ((((x.c0 + x.c1) * (y.c0 + y.c1)) - (x.c0 * y.c0))), FV ((x.c1 * y.c1))]) (by kernel_rfl) (by kernel_rfl) (fun _ => rfl) rfl rfl (fun _ => by kernel_rfl) (fun w hb _ => K.sub _ _ w (K.stay hg hb)),
    ob_build (qs := #[(0, FV (((x.c0 * y.c0) - (x.c1 * y.c1)))), (1, FV (((((x.c0 + x.c1) * (y.c0 + y.c1)) - (x.c0 * y.c0)) - (x.c1 * y.c1))))]) (fun _ => rfl) rfl rfl (fun _ => by kernel_rfl) (buildP _ _),
    ob_store (old := PC 0) (fun _ => rfl) rfl rfl (fun _ => by kernel_rfl) (fun _ => by kernel_rfl) rfl (sizePC _) (PC_one _) (le_len (PC_len _) (PC_len _) (by decide)) (splice_all ((PC_len _).trans (PC_len _).symm)).symm,
    trivial⟩ (fun L3 w4 hp4 => ?_)
  refine k4 _ _ ?_
  refine wp_ret ?_
  exact bodyPost_ret (v := PV (⟨((x.c0 * y.c0) - (x.c1 * y.c1)), ((((x.c0 + x.c1) * (y.c0 + y.c1)) - (x.c0 * y.c0)) - (x.c1 * y.c1))⟩)) (res_c rfl (by kernel_rfl) (hp4.bound 2 rfl).2 Tryd.underlying26 rfl (sizePC _)) rfl ⟨congrArg (fun z => Ending.returned (PV z)) (F2.ext' (by simp) (by simp; grind)), hp4.bel⟩
set_option maxHeartbeats 4000000 in
theorem fp2Conj {G : World → Prop} (K : FpK G) (x : F2) (w : World) (hg : G w) : Calls Tryd.prog 20 #[PV x] w (Ret (PV x.conj) w) := by
  have hp0 := Heap.start w
  go_enter Tryd.func20, Tryd.ntmps20
  refine wp_seq_k (fun K1 k1 => ?_)
  refine goes (ks := [.alloc (PC x), .alloc (PC 0)]) (T := [0, 0]) (nt := 9) (nh := 0) (H := []) (A := fun L => [PV x, .pointer (some ⟨L.b 0, 0, none⟩), .pointer (some ⟨L.b 1, 0, none⟩), undef, undef, undef, undef, undef, undef]) (H' := fun L => [(L.b 0, PC x), (L.b 1, PC 0)]) (by kernel_rfl) rfl rfl rfl (fun L => by kernel_rfl) (fun L => by kernel_rfl) hp0 ⟨
    ob_box (v := PV x) (fun _ => rfl) rfl rfl (fun _ => by kernel_rfl) rfl,
    ob_alloc (v := PV 0) (fun _ => rfl) rfl rfl zeroP rfl,
    trivial⟩ (fun L0 w1 hp1 => ?_)
  refine k1 _ _ ?_
  refine wp_seq_k (fun K2 k2 => ?_)
  refine draws (by kernel_rfl) (ks := [.det (.pointer (some ⟨(L0.b 0), 0, none⟩)), .det (FV x.c0), .det (.pointer (some ⟨(L0.b 0), 6, none⟩)), .det (FV x.c1), .det (FV ((-x.c1))), .det (PV (⟨x.c0, (-x.c1)⟩)), .store (.base 1) 0 (PC (⟨x.c0, (-x.c1)⟩)) (PC (⟨x.c0, (-x.c1)⟩))]) (T := [0, 1, 0, 4, 12, 31, 63]) (nt := 9) (nh := 2) (H := [((L0.b 0), PC x), ((L0.b 1), PC 0)]) (A := fun L => [PV x, .pointer (some ⟨(L0.b 0), 0, none⟩), .pointer (some ⟨(L0.b 1), 0, none⟩), .pointer (some ⟨(L0.b 0), 0, none⟩), FV x.c0, .pointer (some ⟨(L0.b 0), 6, none⟩), FV x.c1, FV ((-x.c1)), PV (⟨x.c0, (-x.c1)⟩)]) (H' := fun L => [((L0.b 0), PC x), ((L0.b 1), PC (⟨x.c0, (-x.c1)⟩))]) (by kernel_rfl) rfl rfl rfl (fun L => by kernel_rfl) (fun L => by kernel_rfl) hp1 ⟨
    ob_index (b := (L0.b 0)) (off := 0) (k := 0) (sz := 6) (n := 2) (fun _ => rfl) rfl rfl (fun _ => by kernel_rfl) (fun _ => by kernel_rfl) Tryd.underlying26 sizeF (by decide) rfl,
    ob_load (b := (L0.b 0)) (off := 0) (cs := FC x.c0) (by kernel_rfl) (fun _ => rfl) rfl rfl (fun _ => by kernel_rfl) (fun _ _ hs => partF2_0 (seen_at (k := 0) hs rfl)) Tryd.underlying24 rfl (sizeFC _),
    ob_index (b := (L0.b 0)) (off := 0) (k := 1) (sz := 6) (n := 2) (fun _ => rfl) rfl rfl (fun _ => by kernel_rfl) (fun _ => by kernel_rfl) Tryd.underlying26 sizeF (by decide) rfl,
    ob_load (b := (L0.b 0)) (off := 6) (cs := FC x.c1) (by kernel_rfl) (fun _ => rfl) rfl rfl (fun _ => by kernel_rfl) (fun _ _ hs => partF2_1 (seen_at (k := 0) hs rfl)) Tryd.underlying24 rfl (sizeFC _),
    ob_call (vs := #[FV x.c1]) (by kernel_rfl) (by kernel_rfl) (fun _ => rfl) rfl rfl (fun _ => by kernel_rfl) (fun w hb _ => K.neg _ w (K.stay hg hb)),
    ob_build (qs := #[(0, FV x.c0), (1, FV ((-x.c1)))]) (fun _ => rfl) rfl rfl (fun _ => by kernel_rfl) (buildP _ _),
    ob_store (old := PC 0) (fun _ => rfl) rfl rfl (fun _ => by kernel_rfl) (fun _ => by kernel_rfl) rfl (sizePC _) (PC_one _) (le_len (PC_len _) (PC_len _) (by decide)) (splice_all ((PC_len _).trans (PC_len _).symm)).symm,
    trivial⟩ (fun L1 w2 hp2 => ?_)
  refine k2 _ _ ?_
  refine wp_ret ?_
  exact bodyPost_ret (v := PV (⟨x.c0, (-x.c1)⟩)) (res_c rfl (by kernel_rfl) (hp2.bound 1 rfl).2 Tryd.underlying26 rfl (sizePC _)) rfl ⟨rfl, hp2.bel⟩
set_option maxHeartbeats 4000000 in
theorem fp2norm {G : World → Prop} (K : FpK G) (x : F2) (w : World) (hg : G w) : Calls Tryd.prog 32 #[PV x] w (Ret (FV x.norm) w) := by
  have hp0 := Heap.start w
  go_enter Tryd.func32, Tryd.ntmps32
  refine wp_seq_k (fun K1 k1 => ?_)
  refine goes (ks := [.alloc (PC x), .alloc (FC 0)]) (T := [0, 0]) (nt := 14) (nh := 0) (H := []) (A := fun L => [PV x, .pointer (some ⟨L.b 0, 0, none⟩), .pointer (some ⟨L.b 1, 0, none⟩), undef, undef, undef, undef, undef, undef, undef, undef, undef, undef, undef]) (H' := fun L => [(L.b 0, PC x), (L.b 1, FC 0)]) (by kernel_rfl) rfl rfl rfl (fun L => by kernel_rfl) (fun L => by kernel_rfl) hp0 ⟨
    ob_box (v := PV x) (fun _ => rfl) rfl rfl (fun _ => by kernel_rfl) rfl,
    ob_alloc (v := FV 0) (fun _ => rfl) rfl rfl zeroF rfl,
    trivial⟩ (fun L0 w1 hp1 => ?_)
  refine k1 _ _ ?_
  refine wp_seq_k (fun K2 k2 => ?_)
  refine draws (by kernel_rfl) (ks := [.det (.pointer (some ⟨(L0.b 0), 0, none⟩)), .det (FV x.c0), .det (.pointer (some ⟨(L0.b 0), 0, none⟩)), .det (FV x.c0), .det (FV ((x.c0 * x.c0))), .det (.pointer (some ⟨(L0.b 0), 6, none⟩)), .det (FV x.c1), .det (.pointer (some ⟨(L0.b 0), 6, none⟩)), .det (FV x.c1), .det (FV ((x.c1 * x.c1))), .det (FV (((x.c0 * x.c0) + (x.c1 * x.c1)))), .store (.base 1) 0 (FC (((x.c0 * x.c0) + (x.c1 * x.c1)))) (FC (((x.c0 * x.c0) + (x.c1 * x.c1))))]) (T := [0, 1, 0, 4, 15, 0, 32, 0, 128, 511, 1023, 2047]) (nt := 14) (nh := 2) (H := [((L0.b 0), PC x), ((L0.b 1), FC 0)]) (A := fun L => [PV x, .pointer (some ⟨(L0.b 0), 0, none⟩), .pointer (some ⟨(L0.b 1), 0, none⟩), .pointer (some ⟨(L0.b 0), 0, none⟩), FV x.c0, .pointer (some ⟨(L0.b 0), 0, none⟩), FV x.c0, FV ((x.c0 * x.c0)), .pointer (some ⟨(L0.b 0), 6, none⟩), FV x.c1, .pointer (some ⟨(L0.b 0), 6, none⟩), FV x.c1, FV ((x.c1 * x.c1)), FV (((x.c0 * x.c0) + (x.c1 * x.c1)))]) (H' := fun L => [((L0.b 0), PC x), ((L0.b 1), FC (((x.c0 * x.c0) + (x.c1 * x.c1))))]) (by kernel_rfl) rfl rfl rfl (fun L => by kernel_rfl) (fun L => by kernel_rfl) hp1 ⟨
    ob_index (b := (L0.b 0)) (off := 0) (k := 0) (sz := 6) (n := 2) (fun _ => rfl) rfl rfl (fun _ => by kernel_rfl) (fun _ => by kernel_rfl) Tryd.underlying26 sizeF (by decide) rfl,
    ob_load (b := (L0.b 0)) (off := 0) (cs := FC x.c0) (by kernel_rfl) (fun _ => rfl) rfl rfl (fun _ => by kernel_rfl) (fun _ _ hs => partF2_0 (seen_at (k := 0) hs rfl)) Tryd.underlying24 rfl (sizeFC _),
    ob_index (b := (L0.b 0)) (off := 0) (k := 0) (sz := 6) (n := 2) (fun _ => rfl) rfl rfl (fun _ => by kernel_rfl) (fun _ => by kernel_rfl) Tryd.underlying26 sizeF (by decide) rfl,
    ob_load (b := (L0.b 0)) (off := 0) (cs := FC x.c0) (by kernel_rfl) (fun _ => rfl) rfl rfl (fun _ => by kernel_rfl) (fun _ _ hs => partF2_0 (seen_at (k := 0) hs rfl)) Tryd.underlying24 rfl (sizeFC _),
    ob_call (vs := #[FV x.c0, FV x.c0]) (by kernel_rfl) (by kernel_rfl) (fun _ => rfl) rfl rfl (fun _ => by kernel_rfl) (fun w hb _ => K.mul _ _ w (K.stay hg hb)),
    ob_index (b := (L0.b 0)) (off := 0) (k := 1) (sz := 6) (n := 2) (fun _ => rfl) rfl rfl (fun _ => by kernel_rfl) (fun _ => by kernel_rfl) Tryd.underlying26 sizeF (by decide) rfl,
    ob_load (b := (L0.b 0)) (off := 6) (cs := FC x.c1) (by kernel_rfl) (fun _ => rfl) rfl rfl (fun _ => by kernel_rfl) (fun _ _ hs => partF2_1 (seen_at (k := 0) hs rfl)) Tryd.underlying24 rfl (sizeFC _),
    ob_index (b := (L0.b 0)) (off := 0) (k := 1) (sz := 6) (n := 2) (fun _ => rfl) rfl rfl (fun _ => by kernel_rfl) (fun _ => by kernel_rfl) Tryd.underlying26 sizeF (by decide) rfl,
    ob_load (b := (L0.b 0)) (off := 6) (cs := FC x.c1) (by kernel_rfl) (fun _ => rfl) rfl rfl (fun _ => by kernel_rfl) (fun _ _ hs => partF2_1 (seen_at (k := 0) hs rfl)) Tryd.underlying24 rfl (sizeFC _),
    ob_call (vs := #[FV x.c1, FV x.c1]) (by kernel_rfl) (by kernel_rfl) (fun _ => rfl) rfl rfl (fun _ => by kernel_rfl) (fun w hb _ => K.mul _ _ w (K.stay hg hb)),
    ob_call (vs := #[FV ((x.c0 * x.c0)), FV ((x.c1 * x.c1))]) (by kernel_rfl) (by kernel_rfl) (fun _ => rfl) rfl rfl (fun _ => by kernel_rfl) (fun w hb _ => K.add _ _ w (K.stay hg hb)),
    ob_store (old := FC 0) (fun _ => rfl) rfl rfl (fun _ => by kernel_rfl) (fun _ => by kernel_rfl) rfl (sizeFC _) (FC_one _) (le_len (FC_len _) (FC_len _) (by decide)) (splice_all ((FC_len _).trans (FC_len _).symm)).symm,
    trivial⟩ (fun L1 w2 hp2 => ?_)
  refine k2 _ _ ?_
  refine wp_ret ?_
  exact bodyPost_ret (v := FV (((x.c0 * x.c0) + (x.c1 * x.c1)))) (res_c rfl (by kernel_rfl) (hp2.bound 1 rfl).2 Tryd.underlying24 rfl (sizeFC _)) rfl ⟨rfl, hp2.bel⟩
set_option maxHeartbeats 4000000 in
theorem fp2scale {G : World → Prop} (K : FpK G) (x : F2) (k : F) (w : World) (hg : G w) : Calls Tryd.prog 33 #[PV x, FV k] w (Ret (PV ⟨x.c0 * k, x.c1 * k⟩) w) := by
  have hp0 := Heap.start w
  go_enter Tryd.func33, Tryd.ntmps33
  refine wp_seq_k (fun K1 k1 => ?_)
  refine goes (ks := [.alloc (PC x), .alloc (FC k), .alloc (PC 0)]) (T := [0, 0, 0]) (nt := 14) (nh := 0) (H := []) (A := fun L => [PV x, FV k, .pointer (some ⟨L.b 0, 0, none⟩), .pointer (some ⟨L.b 1, 0, none⟩), .pointer (some ⟨L.b 2, 0, none⟩), undef, undef, undef, undef, undef, undef, undef, undef, undef]) (H' := fun L => [(L.b 0, PC x), (L.b 1, FC k), (L.b 2, PC 0)]) (by kernel_rfl) rfl rfl rfl (fun L => by kernel_rfl) (fun L => by kernel_rfl) hp0 ⟨
    ob_box (v := PV x) (fun _ => rfl) rfl rfl (fun _ => by kernel_rfl) rfl,
    ob_box (v := FV k) (fun _ => rfl) rfl rfl (fun _ => by kernel_rfl) rfl,
    ob_alloc (v := PV 0) (fun _ => rfl) rfl rfl zeroP rfl,
    trivial⟩ (fun L0 w1 hp1 => ?_)
  refine k1 _ _ ?_
  refine wp_seq_k (fun K2 k2 => ?_)
  refine draws (by kernel_rfl) (ks := [.det (.pointer (some ⟨(L0.b 0), 0, none⟩)), .det (FV x.c0), .det (FV k), .det (FV ((x.c0 * k))), .det (.pointer (some ⟨(L0.b 0), 6, none⟩)), .det (FV x.c1), .det (FV k), .det (FV ((x.c1 * k))), .det (PV (⟨(x.c0 * k), (x.c1 * k)⟩)), .store (.base 2) 0 (PC (⟨(x.c0 * k), (x.c1 * k)⟩)) (PC (⟨(x.c0 * k), (x.c1 * k)⟩))]) (T := [0, 1, 0, 7, 0, 16, 0, 127, 255, 511]) (nt := 14) (nh := 3) (H := [((L0.b 0), PC x), ((L0.b 1), FC k), ((L0.b 2), PC 0)]) (A := fun L => [PV x, FV k, .pointer (some ⟨(L0.b 0), 0, none⟩), .pointer (some ⟨(L0.b 1), 0, none⟩), .pointer (some ⟨(L0.b 2), 0, none⟩), .pointer (some ⟨(L0.b 0), 0, none⟩), FV x.c0, FV k, FV ((x.c0 * k)), .pointer (some ⟨(L0.b 0), 6, none⟩), FV x.c1, FV k, FV ((x.c1 * k)), PV (⟨(x.c0 * k), (x.c1 * k)⟩)]) (H' := fun L => [((L0.b 0), PC x), ((L0.b 1), FC k), ((L0.b 2), PC (⟨(x.c0 * k), (x.c1 * k)⟩))]) (by kernel_rfl) rfl rfl rfl (fun L => by kernel_rfl) (fun L => by kernel_rfl) hp1 ⟨
    ob_index (b := (L0.b 0)) (off := 0) (k := 0) (sz := 6) (n := 2) (fun _ => rfl) rfl rfl (fun _ => by kernel_rfl) (fun _ => by kernel_rfl) Tryd.underlying26 sizeF (by decide) rfl,
    ob_load (b := (L0.b 0)) (off := 0) (cs := FC x.c0) (by kernel_rfl) (fun _ => rfl) rfl rfl (fun _ => by kernel_rfl) (fun _ _ hs => partF2_0 (seen_at (k := 0) hs rfl)) Tryd.underlying24 rfl (sizeFC _),
    ob_load (b := (L0.b 1)) (off := 0) (cs := FC k) (by kernel_rfl) (fun _ => rfl) rfl rfl (fun _ => by kernel_rfl) (fun _ _ hs => (seen_at (k := 1) hs rfl).cells) Tryd.underlying24 rfl (sizeFC _),
    ob_call (vs := #[FV x.c0, FV k]) (by kernel_rfl) (by kernel_rfl) (fun _ => rfl) rfl rfl (fun _ => by kernel_rfl) (fun w hb _ => K.mul _ _ w (K.stay hg hb)),
    ob_index (b := (L0.b 0)) (off := 0) (k := 1) (sz := 6) (n := 2) (fun _ => rfl) rfl rfl (fun _ => by kernel_rfl) (fun _ => by kernel_rfl) Tryd.underlying26 sizeF (by decide) rfl,
    ob_load (b := (L0.b 0)) (off := 6) (cs := FC x.c1) (by kernel_rfl) (fun _ => rfl) rfl rfl (fun _ => by kernel_rfl) (fun _ _ hs => partF2_1 (seen_at (k := 0) hs rfl)) Tryd.underlying24 rfl (sizeFC _),
    ob_load (b := (L0.b 1)) (off := 0) (cs := FC k) (by kernel_rfl) (fun _ => rfl) rfl rfl (fun _ => by kernel_rfl) (fun _ _ hs => (seen_at (k := 1) hs rfl).cells) Tryd.underlying24 rfl (sizeFC _),
    ob_call (vs := #[FV x.c1, FV k]) (by kernel_rfl) (by kernel_rfl) (fun _ => rfl) rfl rfl (fun _ => by kernel_rfl) (fun w hb _ => K.mul _ _ w (K.stay hg hb)),
    ob_build (qs := #[(0, FV ((x.c0 * k))), (1, FV ((x.c1 * k)))]) (fun _ => rfl) rfl rfl (fun _ => by kernel_rfl) (buildP _ _),
    ob_store (old := PC 0) (fun _ => rfl) rfl rfl (fun _ => by kernel_rfl) (fun _ => by kernel_rfl) rfl (sizePC _) (PC_one _) (le_len (PC_len _) (PC_len _) (by decide)) (splice_all ((PC_len _).trans (PC_len _).symm)).symm,
    trivial⟩ (fun L1 w2 hp2 => ?_)
  refine k2 _ _ ?_
  refine wp_ret ?_
  exact bodyPost_ret (v := PV (⟨(x.c0 * k), (x.c1 * k)⟩)) (res_c rfl (by kernel_rfl) (hp2.bound 2 rfl).2 Tryd.underlying26 rfl (sizePC _)) rfl ⟨rfl, hp2.bel⟩
set_option maxHeartbeats 4000000 in
theorem fp2Inv {G : World → Prop} (K : FpK G) (x : F2) (w : World) (hg : G w) (hn : x.norm ≠ 0) : Calls Tryd.prog 10 #[PV x] w (Ret (.tuple #[PV x.inv, .int .i64 0]) w) := by
  have hp0 := Heap.start w
  go_enter Tryd.func10, Tryd.ntmps10
  refine wp_seq_k (fun K1 k1 => ?_)
  refine goes (ks := [.alloc (PC x), .alloc (PC 0), .det (.int .i64 0)]) (T := [0, 0, 0]) (nt := 20) (nh := 0) (H := []) (A := fun L => [PV x, .pointer (some ⟨L.b 0, 0, none⟩), .pointer (some ⟨L.b 1, 0, none⟩), .int .i64 0, undef, undef, undef, undef, undef, undef, undef, undef, undef, undef, undef, undef, undef, undef, undef, undef]) (H' := fun L => [(L.b 0, PC x), (L.b 1, PC 0)]) (by kernel_rfl) rfl rfl rfl (fun L => by kernel_rfl) (fun L => by kernel_rfl) hp0 ⟨
    ob_box (v := PV x) (fun _ => rfl) rfl rfl (fun _ => by kernel_rfl) rfl,
    ob_alloc (v := PV 0) (fun _ => rfl) rfl rfl zeroP rfl,
    ob_assign (fun _ => rfl) rfl rfl (fun _ => by kernel_rfl),
    trivial⟩ (fun L0 w1 hp1 => ?_)
  refine k1 _ _ ?_
  refine wp_seq_k (fun K2 k2 => ?_)
  refine goes (ks := [.det (PV x), .det (FV x.norm), .det (.tuple #[FV ((finv x.norm)), .int .i64 0]), .det (.tuple #[FV ((finv x.norm)), .int .i64 0]), .det (FV ((finv x.norm))), .det (.int .i64 0), .alloc (FC 0), .store (.new 6) 0 (FC ((finv x.norm))) (FC ((finv x.norm))), .det (.int .i64 0)]) (T := [0, 1, 3, 7, 15, 15, 0, 95, 255]) (nt := 20) (nh := 2) (H := [((L0.b 0), PC x), ((L0.b 1), PC 0)]) (A := fun L => [PV x, .pointer (some ⟨(L0.b 0), 0, none⟩), .pointer (some ⟨(L0.b 1), 0, none⟩), .int .i64 0, .pointer (some ⟨L.b 6, 0, none⟩), .int .i64 0, .tuple #[FV ((finv x.norm)), .int .i64 0], PV x, FV x.norm, .tuple #[FV ((finv x.norm)), .int .i64 0], FV ((finv x.norm)), .int .i64 0, undef, undef, undef, undef, undef, undef, undef, undef]) (H' := fun L => [((L0.b 0), PC x), ((L0.b 1), PC 0), (L.b 6, FC ((finv x.norm)))]) (by kernel_rfl) rfl rfl rfl (fun L => by kernel_rfl) (fun L => by kernel_rfl) hp1 ⟨
    ob_load (b := (L0.b 0)) (off := 0) (cs := PC x) (by kernel_rfl) (fun _ => rfl) rfl rfl (fun _ => by kernel_rfl) (fun _ _ hs => (seen_at (k := 0) hs rfl).cells) Tryd.underlying26 rfl (sizePC _),
    ob_call (vs := #[PV x]) (by kernel_rfl) (by kernel_rfl) (fun _ => rfl) rfl rfl (fun _ => by kernel_rfl) (fun w hb _ => fp2norm K _ w (K.stay hg hb)),
    ob_call (vs := #[FV x.norm]) (by kernel_rfl) (by kernel_rfl) (fun _ => rfl) rfl rfl (fun _ => by kernel_rfl) (fun w hb _ => K.inv _ w (K.stay hg hb) hn),
    ob_move (fun _ => rfl) rfl rfl (fun _ => by kernel_rfl),
    ob_extract (vs := #[FV ((finv x.norm)), .int .i64 0]) (fun _ => rfl) rfl rfl (fun _ => by kernel_rfl) rfl,
    ob_extract (vs := #[FV ((finv x.norm)), .int .i64 0]) (fun _ => rfl) rfl rfl (fun _ => by kernel_rfl) rfl,
    ob_alloc (v := FV 0) (fun _ => rfl) rfl rfl zeroF rfl,
    ob_store (old := FC 0) (fun _ => rfl) rfl rfl (fun _ => by kernel_rfl) (fun _ => by kernel_rfl) rfl (sizeFC _) (FC_one _) (le_len (FC_len _) (FC_len _) (by decide)) (splice_all ((FC_len _).trans (FC_len _).symm)).symm,
    ob_assign (fun _ => rfl) rfl rfl (fun _ => by kernel_rfl),
    trivial⟩ (fun L1 w2 hp2 => ?_)
  refine k2 _ _ ?_
  refine wp_seq_k (fun K3 k3 => ?_)
  refine wp_seq_k (fun K4 k4 => ?_)
  refine goes (ks := [.det (.int .i64 0), .det (.bool false)]) (T := [0, 1]) (nt := 20) (nh := 3) (H := [((L0.b 0), PC x), ((L0.b 1), PC 0), ((L1.b 6), FC ((finv x.norm)))]) (A := fun L => [PV x, .pointer (some ⟨(L0.b 0), 0, none⟩), .pointer (some ⟨(L0.b 1), 0, none⟩), .int .i64 0, .pointer (some ⟨(L1.b 6), 0, none⟩), .int .i64 0, .tuple #[FV ((finv x.norm)), .int .i64 0], PV x, FV x.norm, .tuple #[FV ((finv x.norm)), .int .i64 0], FV ((finv x.norm)), .int .i64 0, .int .i64 0, .bool false, undef, undef, undef, undef, undef, undef]) (H' := fun L => [((L0.b 0), PC x), ((L0.b 1), PC 0), ((L1.b 6), FC ((finv x.norm)))]) (by kernel_rfl) rfl rfl rfl (fun L => by kernel_rfl) (fun L => by kernel_rfl) hp2 ⟨
    ob_move (fun _ => rfl) rfl rfl (fun _ => by kernel_rfl),
    ob_ne (u := .int .i64 0) (v := .int .i64 0) (fun _ => rfl) rfl rfl (fun _ => by kernel_rfl) (fun _ => by kernel_rfl) (fun w => guardI _ _ _ _ _ _ _ _ w) (fun w => (neqI _ _ _ _ w).trans rfl),
    trivial⟩ (fun L2 w3 hp3 => ?_)
  refine k4 _ _ ?_
  refine wp_cond_false (by kernel_rfl) ?_
  refine skips ?_
  refine k3 _ _ ?_
  refine wp_seq_k (fun K5 k5 => ?_)
  refine draws (by kernel_rfl) (ks := [.det (PV x), .det (PV x.conj), .det (FV ((finv x.norm))), .det (PV (⟨x.conj.c0 * (finv x.norm), x.conj.c1 * (finv x.norm)⟩)), .store (.base 1) 0 (PC (⟨x.conj.c0 * (finv x.norm), x.conj.c1 * (finv x.norm)⟩)) (PC (⟨x.conj.c0 * (finv x.norm), x.conj.c1 * (finv x.norm)⟩)), .det (.int .i64 0)]) (T := [0, 1, 0, 7, 15, 31]) (nt := 20) (nh := 3) (H := [((L0.b 0), PC x), ((L0.b 1), PC 0), ((L1.b 6), FC ((finv x.norm)))]) (A := fun L => [PV x, .pointer (some ⟨(L0.b 0), 0, none⟩), .pointer (some ⟨(L0.b 1), 0, none⟩), .int .i64 0, .pointer (some ⟨(L1.b 6), 0, none⟩), .int .i64 0, .tuple #[FV ((finv x.norm)), .int .i64 0], PV x, FV x.norm, .tuple #[FV ((finv x.norm)), .int .i64 0], FV ((finv x.norm)), .int .i64 0, .int .i64 0, .bool false, undef, undef, PV x, PV x.conj, FV ((finv x.norm)), PV (⟨x.conj.c0 * (finv x.norm), x.conj.c1 * (finv x.norm)⟩)]) (H' := fun L => [((L0.b 0), PC x), ((L0.b 1), PC (⟨x.conj.c0 * (finv x.norm), x.conj.c1 * (finv x.norm)⟩)), ((L1.b 6), FC ((finv x.norm)))]) (by kernel_rfl) rfl rfl rfl (fun L => by kernel_rfl) (fun L => by kernel_rfl) hp3 ⟨
    ob_load (b := (L0.b 0)) (off := 0) (cs := PC x) (by kernel_rfl) (fun _ => rfl) rfl rfl (fun _ => by kernel_rfl) (fun _ _ hs => (seen_at (k := 0) hs rfl).cells) Tryd.underlying26 rfl (sizePC _),
    ob_call (vs := #[PV x]) (by kernel_rfl) (by kernel_rfl) (fun _ => rfl) rfl rfl (fun _ => by kernel_rfl) (fun w hb _ => fp2Conj K _ w (K.stay hg hb)),
    ob_load (b := (L1.b 6)) (off := 0) (cs := FC ((finv x.norm))) (by kernel_rfl) (fun _ => rfl) rfl rfl (fun _ => by kernel_rfl) (fun _ _ hs => (seen_at (k := 2) hs rfl).cells) Tryd.underlying24 rfl (sizeFC _),
    ob_call (vs := #[PV x.conj, FV ((finv x.norm))]) (by kernel_rfl) (by kernel_rfl) (fun _ => rfl) rfl rfl (fun _ => by kernel_rfl) (fun w hb _ => fp2scale K _ _ w (K.stay hg hb)),
    ob_store (old := PC 0) (fun _ => rfl) rfl rfl (fun _ => by kernel_rfl) (fun _ => by kernel_rfl) rfl (sizePC _) (PC_one _) (le_len (PC_len _) (PC_len _) (by decide)) (splice_all ((PC_len _).trans (PC_len _).symm)).symm,
    ob_assign (fun _ => rfl) rfl rfl (fun _ => by kernel_rfl),
    trivial⟩ (fun L3 w4 hp4 => ?_)
  refine k5 _ _ ?_
  refine wp_ret ?_
  exact bodyPost_ret (v := .tuple #[PV (⟨x.conj.c0 * (finv x.norm), x.conj.c1 * (finv x.norm)⟩), .int .i64 0]) (res_ct rfl (by kernel_rfl) (by kernel_rfl) (hp4.bound 1 rfl).2 Tryd.underlying26 rfl (sizePC _)) rfl ⟨rfl, hp4.bel⟩
set_option maxHeartbeats 4000000 in
theorem fp2Great1 {G : World → Prop} (K : FpK G) (x : F2) (w : World) (hg : G w) (h1 : x.c1 = 0) : Calls Tryd.prog 22 #[PV x] w (Ret (.bool x.great) w) := by
  have hp0 := Heap.start w
  go_enter Tryd.func22, Tryd.ntmps22
  refine wp_seq_k (fun K1 k1 => ?_)
  refine goes (ks := [.alloc (PC x), .det (.bool false)]) (T := [0, 0]) (nt := 13) (nh := 0) (H := []) (A := fun L => [PV x, .pointer (some ⟨L.b 0, 0, none⟩), .bool false, undef, undef, undef, undef, undef, undef, undef, undef, undef, undef]) (H' := fun L => [(L.b 0, PC x)]) (by kernel_rfl) rfl rfl rfl (fun L => by kernel_rfl) (fun L => by kernel_rfl) hp0 ⟨
    ob_box (v := PV x) (fun _ => rfl) rfl rfl (fun _ => by kernel_rfl) rfl,
    ob_assign (fun _ => rfl) rfl rfl (fun _ => by kernel_rfl),
    trivial⟩ (fun L0 w1 hp1 => ?_)
  refine k1 _ _ ?_
  refine wp_seq_k (fun K2 k2 => ?_)
  refine wp_seq_k (fun K3 k3 => ?_)
  refine goes (ks := [.det (.pointer (some ⟨(L0.b 0), 6, none⟩)), .det (FV x.c1), .det (FV 0), .det (.bool true)]) (T := [0, 1, 0, 7]) (nt := 13) (nh := 1) (H := [((L0.b 0), PC x)]) (A := fun L => [PV x, .pointer (some ⟨(L0.b 0), 0, none⟩), .bool false, .pointer (some ⟨(L0.b 0), 6, none⟩), FV x.c1, FV 0, .bool true, undef, undef, undef, undef, undef, undef]) (H' := fun L => [((L0.b 0), PC x)]) (by kernel_rfl) rfl rfl rfl (fun L => by kernel_rfl) (fun L => by kernel_rfl) hp1 ⟨
    ob_index (b := (L0.b 0)) (off := 0) (k := 1) (sz := 6) (n := 2) (fun _ => rfl) rfl rfl (fun _ => by kernel_rfl) (fun _ => by kernel_rfl) Tryd.underlying26 sizeF (by decide) rfl,
    ob_load (b := (L0.b 0)) (off := 6) (cs := FC x.c1) (by kernel_rfl) (fun _ => rfl) rfl rfl (fun _ => by kernel_rfl) (fun _ _ hs => partF2_1 (seen_at (k := 0) hs rfl)) Tryd.underlying24 rfl (sizeFC _),
    ob_build (qs := #[]) (fun _ => rfl) rfl rfl (fun _ => by kernel_rfl) buildF0,
    ob_eq (u := FV x.c1) (v := FV 0) (fun _ => rfl) rfl rfl (fun _ => by kernel_rfl) (fun _ => by kernel_rfl) (fun w => guardF _ _ _ _ _ w) (fun w => (eqlF _ _ w).trans (by rw [decide_eq_true (h1)]; try rfl)),
    trivial⟩ (fun L1 w2 hp2 => ?_)
  refine k3 _ _ ?_
  refine wp_cond_true (by kernel_rfl) ?_
  refine wp_seq_k (fun K4 k4 => ?_)
  refine goes (ks := [.det (.pointer (some ⟨(L0.b 0), 0, none⟩)), .det (FV x.c0), .det (.bool (great x.c0)), .det (.bool (great x.c0))]) (T := [0, 1, 3, 7]) (nt := 13) (nh := 1) (H := [((L0.b 0), PC x)]) (A := fun L => [PV x, .pointer (some ⟨(L0.b 0), 0, none⟩), .bool (great x.c0), .pointer (some ⟨(L0.b 0), 6, none⟩), FV x.c1, FV 0, .bool true, .pointer (some ⟨(L0.b 0), 0, none⟩), FV x.c0, .bool (great x.c0), undef, undef, undef]) (H' := fun L => [((L0.b 0), PC x)]) (by kernel_rfl) rfl rfl rfl (fun L => by kernel_rfl) (fun L => by kernel_rfl) hp2 ⟨
    ob_index (b := (L0.b 0)) (off := 0) (k := 0) (sz := 6) (n := 2) (fun _ => rfl) rfl rfl (fun _ => by kernel_rfl) (fun _ => by kernel_rfl) Tryd.underlying26 sizeF (by decide) rfl,
    ob_load (b := (L0.b 0)) (off := 0) (cs := FC x.c0) (by kernel_rfl) (fun _ => rfl) rfl rfl (fun _ => by kernel_rfl) (fun _ _ hs => partF2_0 (seen_at (k := 0) hs rfl)) Tryd.underlying24 rfl (sizeFC _),
    ob_call (vs := #[FV x.c0]) (by kernel_rfl) (by kernel_rfl) (fun _ => rfl) rfl rfl (fun _ => by kernel_rfl) (fun w hb _ => K.great _ w (K.stay hg hb)),
    ob_assign (fun _ => rfl) rfl rfl (fun _ => by kernel_rfl),
    trivial⟩ (fun L2 w3 hp3 => ?_)
  refine k4 _ _ ?_
  refine wp_ret ?_
  exact bodyPost_ret (v := .bool (great x.c0)) (res_t rfl (by kernel_rfl) _) rfl ⟨congrArg (fun b => Ending.returned (.bool b)) (if_pos h1).symm, hp3.bel⟩
set_option maxHeartbeats 4000000 in
theorem fp2Great2 {G : World → Prop} (K : FpK G) (x : F2) (w : World) (hg : G w) (h1 : x.c1 ≠ 0) : Calls Tryd.prog 22 #[PV x] w (Ret (.bool x.great) w) := by
  have hp0 := Heap.start w
  go_enter Tryd.func22, Tryd.ntmps22
  refine wp_seq_k (fun K1 k1 => ?_)
  refine goes (ks := [.alloc (PC x), .det (.bool false)]) (T := [0, 0]) (nt := 13) (nh := 0) (H := []) (A := fun L => [PV x, .pointer (some ⟨L.b 0, 0, none⟩), .bool false, undef, undef, undef, undef, undef, undef, undef, undef, undef, undef]) (H' := fun L => [(L.b 0, PC x)]) (by kernel_rfl) rfl rfl rfl (fun L => by kernel_rfl) (fun L => by kernel_rfl) hp0 ⟨
    ob_box (v := PV x) (fun _ => rfl) rfl rfl (fun _ => by kernel_rfl) rfl,
    ob_assign (fun _ => rfl) rfl rfl (fun _ => by kernel_rfl),
    trivial⟩ (fun L0 w1 hp1 => ?_)
  refine k1 _ _ ?_
  refine wp_seq_k (fun K2 k2 => ?_)
  refine wp_seq_k (fun K3 k3 => ?_)
  refine goes (ks := [.det (.pointer (some ⟨(L0.b 0), 6, none⟩)), .det (FV x.c1), .det (FV 0), .det (.bool false)]) (T := [0, 1, 0, 7]) (nt := 13) (nh := 1) (H := [((L0.b 0), PC x)]) (A := fun L => [PV x, .pointer (some ⟨(L0.b 0), 0, none⟩), .bool false, .pointer (some ⟨(L0.b 0), 6, none⟩), FV x.c1, FV 0, .bool false, undef, undef, undef, undef, undef, undef]) (H' := fun L => [((L0.b 0), PC x)]) (by kernel_rfl) rfl rfl rfl (fun L => by kernel_rfl) (fun L => by kernel_rfl) hp1 ⟨
    ob_index (b := (L0.b 0)) (off := 0) (k := 1) (sz := 6) (n := 2) (fun _ => rfl) rfl rfl (fun _ => by kernel_rfl) (fun _ => by kernel_rfl) Tryd.underlying26 sizeF (by decide) rfl,
    ob_load (b := (L0.b 0)) (off := 6) (cs := FC x.c1) (by kernel_rfl) (fun _ => rfl) rfl rfl (fun _ => by kernel_rfl) (fun _ _ hs => partF2_1 (seen_at (k := 0) hs rfl)) Tryd.underlying24 rfl (sizeFC _),
    ob_build (qs := #[]) (fun _ => rfl) rfl rfl (fun _ => by kernel_rfl) buildF0,
    ob_eq (u := FV x.c1) (v := FV 0) (fun _ => rfl) rfl rfl (fun _ => by kernel_rfl) (fun _ => by kernel_rfl) (fun w => guardF _ _ _ _ _ w) (fun w => (eqlF _ _ w).trans (by rw [decide_eq_false (h1)]; try rfl)),
    trivial⟩ (fun L1 w2 hp2 => ?_)
  refine k3 _ _ ?_
  refine wp_cond_false (by kernel_rfl) ?_
  refine skips ?_
  refine k2 _ _ ?_
  refine wp_seq_k (fun K4 k4 => ?_)
  refine goes (ks := [.det (.pointer (some ⟨(L0.b 0), 6, none⟩)), .det (FV x.c1), .det (.bool (great x.c1)), .det (.bool (great x.c1))]) (T := [0, 1, 3, 7]) (nt := 13) (nh := 1) (H := [((L0.b 0), PC x)]) (A := fun L => [PV x, .pointer (some ⟨(L0.b 0), 0, none⟩), .bool (great x.c1), .pointer (some ⟨(L0.b 0), 6, none⟩), FV x.c1, FV 0, .bool false, undef, undef, undef, .pointer (some ⟨(L0.b 0), 6, none⟩), FV x.c1, .bool (great x.c1)]) (H' := fun L => [((L0.b 0), PC x)]) (by kernel_rfl) rfl rfl rfl (fun L => by kernel_rfl) (fun L => by kernel_rfl) hp2 ⟨
    ob_index (b := (L0.b 0)) (off := 0) (k := 1) (sz := 6) (n := 2) (fun _ => rfl) rfl rfl (fun _ => by kernel_rfl) (fun _ => by kernel_rfl) Tryd.underlying26 sizeF (by decide) rfl,
    ob_load (b := (L0.b 0)) (off := 6) (cs := FC x.c1) (by kernel_rfl) (fun _ => rfl) rfl rfl (fun _ => by kernel_rfl) (fun _ _ hs => partF2_1 (seen_at (k := 0) hs rfl)) Tryd.underlying24 rfl (sizeFC _),
    ob_call (vs := #[FV x.c1]) (by kernel_rfl) (by kernel_rfl) (fun _ => rfl) rfl rfl (fun _ => by kernel_rfl) (fun w hb _ => K.great _ w (K.stay hg hb)),
    ob_assign (fun _ => rfl) rfl rfl (fun _ => by kernel_rfl),
    trivial⟩ (fun L2 w3 hp3 => ?_)
  refine k4 _ _ ?_
  refine wp_ret ?_
  exact bodyPost_ret (v := .bool (great x.c1)) (res_t rfl (by kernel_rfl) _) rfl ⟨congrArg (fun b => Ending.returned (.bool b)) (if_neg h1).symm, hp3.bel⟩
theorem fp2Great {G : World → Prop} (K : FpK G) (x : F2) (w : World) (hg : G w) : Calls Tryd.prog 22 #[PV x] w (Ret (.bool x.great) w) := by
  by_cases h : x.c1 = 0
  · exact fp2Great1 K x w hg h
  · exact fp2Great2 K x w hg h
set_option maxHeartbeats 4000000 in
theorem fp2May {G : World → Prop} (K : FpK G) (f g : Nat → Int) (w : World) (hg : G w) (rf : Rg f 6) (rg : Rg g 6) (lf : val f 6 < RI) (lg : val g 6 < RI) : Calls Tryd.prog 9 #[QV2 f g] w (Ret (.bool true) w) := by
  have hp0 := Heap.start w
  go_enter Tryd.func9, Tryd.ntmps9
  refine wp_seq_k (fun K1 k1 => ?_)
  refine goes (ks := [.alloc (QC2 f g), .det (.bool false)]) (T := [0, 0]) (nt := 11) (nh := 0) (H := []) (A := fun L => [QV2 f g, .pointer (some ⟨L.b 0, 0, none⟩), .bool false, undef, undef, undef, undef, undef, undef, undef, undef]) (H' := fun L => [(L.b 0, QC2 f g)]) (by kernel_rfl) rfl rfl rfl (fun L => by kernel_rfl) (fun L => by kernel_rfl) hp0 ⟨
    ob_box (v := QV2 f g) (fun _ => rfl) rfl rfl (fun _ => by kernel_rfl) rfl,
    ob_assign (fun _ => rfl) rfl rfl (fun _ => by kernel_rfl),
    trivial⟩ (fun L0 w1 hp1 => ?_)
  refine k1 _ _ ?_
  refine wp_seq_k (fun K2 k2 => ?_)
  refine goes (ks := [.det (.pointer (some ⟨(L0.b 0), 0, none⟩)), .det (QV f), .det (.bool true), .det (.bool true), .det (.pointer (some ⟨(L0.b 0), 6, none⟩)), .det (QV g), .det (.bool true), .det (.bool true), .det (.bool true)]) (T := [0, 1, 3, 7, 15, 31, 63, 127, 255]) (nt := 11) (nh := 1) (H := [((L0.b 0), QC2 f g)]) (A := fun L => [QV2 f g, .pointer (some ⟨(L0.b 0), 0, none⟩), .bool true, .pointer (some ⟨(L0.b 0), 0, none⟩), QV f, .bool true, .bool true, .pointer (some ⟨(L0.b 0), 6, none⟩), QV g, .bool true, .bool true]) (H' := fun L => [((L0.b 0), QC2 f g)]) (by kernel_rfl) rfl rfl rfl (fun L => by kernel_rfl) (fun L => by kernel_rfl) hp1 ⟨
    ob_index (b := (L0.b 0)) (off := 0) (k := 0) (sz := 6) (n := 2) (fun _ => rfl) rfl rfl (fun _ => by kernel_rfl) (fun _ => by kernel_rfl) Tryd.underlying26 sizeF (by decide) rfl,
    ob_load (b := (L0.b 0)) (off := 0) (cs := QC f) (by kernel_rfl) (fun _ => rfl) rfl rfl (fun _ => by kernel_rfl) (fun _ _ hs => partQ2_0 (seen_at (k := 0) hs rfl)) Tryd.underlying24 rfl (sizeQC _),
    ob_call (vs := #[QV f]) (by kernel_rfl) (by kernel_rfl) (fun _ => rfl) rfl rfl (fun _ => by kernel_rfl) (fun w hb _ => by have h := K.may f w (K.stay hg hb) rf; rw [decide_eq_true lf] at h; exact h),
    ob_move (fun _ => rfl) rfl rfl (fun _ => by kernel_rfl),
    ob_index (b := (L0.b 0)) (off := 0) (k := 1) (sz := 6) (n := 2) (fun _ => by kernel_rfl) rfl rfl (fun _ => by kernel_rfl) (fun _ => by kernel_rfl) Tryd.underlying26 sizeF (by decide) rfl,
    ob_load (b := (L0.b 0)) (off := 6) (cs := QC g) (by kernel_rfl) (fun _ => by kernel_rfl) rfl rfl (fun _ => by kernel_rfl) (fun _ _ hs => partQ2_1 (seen_at (k := 0) hs rfl)) Tryd.underlying24 rfl (sizeQC _),
    ob_call (vs := #[QV g]) (by kernel_rfl) (by kernel_rfl) (fun _ => by kernel_rfl) rfl rfl (fun _ => by kernel_rfl) (fun w hb _ => by have h := K.may g w (K.stay hg hb) rg; rw [decide_eq_true lg] at h; exact h),
    ob_pickT (fun _ => rfl) rfl rfl (fun _ => by kernel_rfl) (fun _ => by kernel_rfl),
    ob_assign (fun _ => rfl) rfl rfl (fun _ => by kernel_rfl),
    trivial⟩ (fun L1 w2 hp2 => ?_)
  refine k2 _ _ ?_
  refine wp_ret ?_
  exact bodyPost_ret (v := .bool true) (res_t rfl (by kernel_rfl) _) rfl ⟨rfl, hp2.bel⟩
end Go.Proofs.YtgoghcmnnhglhaaDoor.fpn

/- The base field: powers, squares, roots, which of two opposites is Great. No program is named here. -/
namespace Go.Proofs.YtgoghcmnnhglhaaDoor.fpn
set_option linter.unusedVariables false

/-- a^n. -/
def fpow (a : F) (n : Nat) : F := Fin.ofNat RN (a.val ^ n)
theorem fpow_val (a : F) (n : Nat) : (fpow a n).val = a.val ^ n % RN := rfl
theorem fpow_add (a : F) (m n : Nat) : fpow a (m + n) = fpow a m * fpow a n := Fin.ext (by
  rw [Fin.val_mul, fpow_val, fpow_val, fpow_val, Nat.pow_add, Nat.mul_mod])
theorem fpow_mul (a b : F) (n : Nat) : fpow (a * b) n = fpow a n * fpow b n := Fin.ext (by
  rw [Fin.val_mul, fpow_val, fpow_val, fpow_val, Fin.val_mul, ← Nat.pow_mod, Nat.mul_pow, Nat.mul_mod])
theorem fpow_one (a : F) : fpow a 1 = a := Fin.ext (by rw [fpow_val, Nat.pow_one, Nat.mod_eq_of_lt a.isLt])
theorem one_val : ((1 : F).val : Int) = 1 := by kernel_rfl
theorem fermatF {a : F} (h : a ≠ 0) : fpow a (RN - 1) = 1 := by
  refine ext_int ?_
  have h0 : (a.val : Int) ≠ 0 := fun e => h (Fin.ext (by
    have : a.val = 0 := by omega
    rw [this]; rfl))
  have := fermatI (A := (a.val : Int)) (by omega) h0 (by rw [RI_RN]; have := a.isLt; omega)
  rw [RI_RN, ← cast_pow_mod] at this
  rw [fpow_val, one_val]
  exact this

theorem no_zero {a b : F} (h : a * b = 0) : a = 0 ∨ b = 0 := by
  by_cases h0 : a = 0
  · exact .inl h0
  · refine .inr ?_
    have := finv_mul h0
    have e : b = finv a * (a * b) := by grind
    rw [e, h]; grind
theorem sq_eq {a b : F} (h : a * a = b * b) : a = b ∨ a = -b := by
  have : (a - b) * (a + b) = 0 := by grind
  rcases no_zero this with h | h
  · exact .inl (by grind)
  · exact .inr (by grind)

theorem two_ne : (2 : F) ≠ 0 := fun h => absurd (congrArg Fin.val h) (by decide +kernel)
theorem neg_one_ne : (-1 : F) ≠ 1 := fun h => absurd (congrArg Fin.val h) (by decide +kernel)

/-- a^((P - 1) / 2). -/
def eul (a : F) : F := fpow a ((RN - 1) / 2)
theorem eul_sq {a : F} (h : a ≠ 0) : eul a * eul a = 1 := by
  unfold eul
  rw [← fpow_add, show (RN - 1) / 2 + (RN - 1) / 2 = RN - 1 by decide +kernel]
  exact fermatF h
theorem eul_or {a : F} (h : a ≠ 0) : eul a = 1 ∨ eul a = -1 := sq_eq (by rw [eul_sq h]; grind)
theorem rt_sq (a : F) : rt a * rt a = a * eul a := by
  have : rt a = fpow a SE := rt_eq a
  rw [this]
  unfold eul
  rw [← fpow_add, show SE + SE = 1 + (RN - 1) / 2 by decide +kernel, fpow_add, fpow_one]
theorem eul_neg_one : eul (-1) = -1 := by
  refine ext_int ?_
  unfold eul
  have h : ((-1 : F).val : Nat) = RN - 1 := by kernel_rfl
  rw [fpow_val, h]
  have : pm RN (RN - 1) 384 ((RN - 1) / 2) = RN - 1 := by decide +kernel
  rw [← pm_eq RN (RN - 1) 384 ((RN - 1) / 2) (by decide +kernel), this]
theorem eul_mul (a b : F) : eul (a * b) = eul a * eul b := fpow_mul a b _
theorem eul_neg (a : F) : eul (-a) = -eul a := by
  rw [show -a = -1 * a by grind, eul_mul, eul_neg_one]; grind
theorem isq_iff {a : F} (h : a ≠ 0) : isq a = true ↔ eul a = 1 := by
  unfold isq
  rw [decide_eq_true_eq, rt_sq]
  refine ⟨fun e => ?_, fun e => by rw [e]; grind⟩
  have h1 := finv_mul h
  have : finv a * (a * eul a) = finv a * a := by rw [e]
  grind
theorem isq_zero : isq 0 = true := by
  unfold isq
  rw [decide_eq_true_eq, rt_sq]; grind
/-- Just the squares have a root. -/
theorem isq_of {a r : F} (h : r * r = a) : isq a = true := by
  by_cases h0 : a = 0
  · rw [h0]; exact isq_zero
  · rw [isq_iff h0]
    have hr : r ≠ 0 := fun e => h0 (by rw [← h, e]; grind)
    rw [← h, eul_mul, eul_sq hr]
/-- Of a number and its opposite one is a square. -/
theorem isq_neg {a : F} (h : isq a = false) : isq (-a) = true := by
  have h0 : a ≠ 0 := fun e => by rw [e, isq_zero] at h; cases h
  have hn : -a ≠ 0 := fun e => h0 (by grind)
  rw [isq_iff hn, eul_neg]
  rcases eul_or h0 with e | e
  · rw [(isq_iff h0).2 e] at h; cases h
  · rw [e]; grind
/-- .. and the other is none. -/
theorem isq_not {a : F} (h0 : a ≠ 0) (h : isq a = true) : isq (-a) = false := by
  have hn : -a ≠ 0 := fun e => h0 (by grind)
  cases hq : isq (-a) with
  | false => rfl
  | true =>
    rw [isq_iff hn, eul_neg, (isq_iff h0).1 h] at hq
    exact absurd hq neg_one_ne
theorem isq_mul {a b : F} (ha : isq a = true) (hb : isq b = true) : isq (a * b) = true := by
  unfold isq at ha hb
  rw [decide_eq_true_eq] at ha hb
  exact isq_of (r := rt a * rt b) (by rw [← ha, ← hb]; grind)
theorem isq_mulN {a b : F} (ha : isq a = false) (hb : isq b = false) : isq (a * b) = true := by
  have h1 := isq_mul (isq_neg ha) (isq_neg hb)
  rwa [show -a * -b = a * b by grind] at h1

/-- Great, of opposites. -/
theorem great_neg {a : F} (h : a ≠ 0) : great (-a) = !great a := by
  have h0 : a.val ≠ 0 := fun e => h (Fin.ext (by rw [e]; rfl))
  have h1 : (-a).val = RN - a.val := by
    have h2 := val_neg a
    have := a.isLt
    rw [RI_RN] at h2
    have h3 : (0 - (a.val : Int)) % (RN : Int) = (RN : Int) - a.val := by
      rw [← Int.add_emod_right, Int.emod_eq_of_lt (by omega) (by omega)]; omega
    omega
  have := a.isLt
  have hodd : RN / 2 + RN / 2 + 1 = RN := by decide +kernel
  unfold great
  rw [h1]
  by_cases hg : RN / 2 < a.val
  · rw [decide_eq_true hg, decide_eq_false (by omega)]; rfl
  · rw [decide_eq_false hg, decide_eq_true (by omega)]; rfl
theorem great_zero : great 0 = false := by kernel_rfl

theorem root_sq {a : F} (h : isq a = true) : root a * root a = a := by
  have h1 : rt a * rt a = a := by unfold isq at h; exact of_decide_eq_true h
  unfold root
  rw [if_pos h]
  split
  · rw [show -rt a * -rt a = rt a * rt a by grind]; exact h1
  · exact h1
theorem root_ne {a : F} (h : isq a = true) (h0 : a ≠ 0) : root a ≠ 0 := fun e => h0 (by
  have := root_sq h; rw [e] at this; rw [← this]; grind)
theorem root_zero : root 0 = 0 := by
  have := root_sq isq_zero
  rcases no_zero this with h | h <;> exact h
theorem isq_neq {a : F} (h : isq a = false) : a ≠ 0 := fun e => by rw [e, isq_zero] at h; cases h

/-- A sum of two squares is 0 of noughts alone. -/
theorem sum_sq {a b : F} (h : a * a + b * b = 0) : a = 0 ∧ b = 0 := by
  by_cases hb : b = 0
  · refine ⟨?_, hb⟩
    rw [hb] at h
    have : a * a = 0 := by grind
    rcases no_zero this with h | h <;> exact h
  · exfalso
    have h1 : isq (b * b) = true := isq_of rfl
    have hbb : b * b ≠ 0 := fun e => by rcases no_zero e with h | h <;> exact hb h
    have h2 := isq_not hbb h1
    have h3 : isq (-(b * b)) = true := isq_of (r := a) (by grind)
    rw [h2] at h3; cases h3
end Go.Proofs.YtgoghcmnnhglhaaDoor.fpn

/- Pairs: a field; squares and roots. No program is named here. -/
namespace Go.Proofs.YtgoghcmnnhglhaaDoor.fpn
set_option linter.unusedVariables false
namespace F2

theorem norm_zero {x : F2} (h : x.norm = 0) : x = 0 := by
  obtain ⟨h0, h1⟩ := sum_sq (a := x.c0) (b := x.c1) h
  exact ext' h0 h1
theorem norm_ne {x : F2} (h : x ≠ 0) : x.norm ≠ 0 := fun e => h (norm_zero e)
theorem norm_of_zero : (0 : F2).norm = 0 := by kernel_rfl
theorem norm_mul (x y : F2) : (x * y).norm = x.norm * y.norm := by unfold norm; simp only [mul_c0, mul_c1]; grind
theorem mul_comm' (x y : F2) : x * y = y * x := ext' (by simp only [mul_c0]; grind) (by simp only [mul_c1]; grind)
theorem mul_assoc' (x y z : F2) : x * (y * z) = x * y * z := ext' (by simp only [mul_c0, mul_c1]; grind) (by simp only [mul_c0, mul_c1]; grind)
theorem one_mul' (x : F2) : 1 * x = x := ext' (by simp only [mul_c0, one_c0, one_c1]; grind) (by simp only [mul_c1, one_c0, one_c1]; grind)
theorem mul_one' (x : F2) : x * 1 = x := by rw [mul_comm', one_mul']
theorem neg_mul_neg' (x y : F2) : -x * -y = x * y := ext' (by simp only [mul_c0, neg_c0, neg_c1]; grind) (by simp only [mul_c1, neg_c0, neg_c1]; grind)
theorem inv_mul {x : F2} (h : x ≠ 0) : x * x.inv = 1 := by
  have hn := finv_mul (norm_ne h)
  unfold inv
  refine ext' ?_ ?_
  · simp only [mul_c0, one_c0]; unfold norm at hn ⊢; grind
  · simp only [mul_c1, one_c1]; grind
theorem no_zero' {x y : F2} (h : x * y = 0) : x = 0 ∨ y = 0 := by
  have : x.norm * y.norm = 0 := by rw [← norm_mul, h, norm_of_zero]
  rcases no_zero this with h | h
  · exact .inl (norm_zero h)
  · exact .inr (norm_zero h)
theorem sq_eq' {x y : F2} (h : x * x = y * y) : x = y ∨ x = -y := by
  have e : (x - y) * (x + y) = 0 := by
    have h0 : x.c0 * x.c0 - x.c1 * x.c1 = y.c0 * y.c0 - y.c1 * y.c1 := congrArg F2.c0 h
    have h1 : x.c0 * x.c1 + x.c1 * x.c0 = y.c0 * y.c1 + y.c1 * y.c0 := congrArg F2.c1 h
    refine ext' ?_ ?_
    · simp only [mul_c0, sub_c0, sub_c1, add_c0, add_c1, zero_c0]; grind
    · simp only [mul_c1, sub_c0, sub_c1, add_c0, add_c1, zero_c1]; grind
  rcases no_zero' e with h | h
  · left
    have h0 : x.c0 - y.c0 = 0 := congrArg F2.c0 h
    have h1 : x.c1 - y.c1 = 0 := congrArg F2.c1 h
    exact ext' (by grind) (by grind)
  · right
    have h0 : x.c0 + y.c0 = 0 := congrArg F2.c0 h
    have h1 : x.c1 + y.c1 = 0 := congrArg F2.c1 h
    exact ext' (by simp only [neg_c0]; grind) (by simp only [neg_c1]; grind)

theorem great_neg' {x : F2} (h : x ≠ 0) : (-x).great = !x.great := by
  unfold great
  simp only [neg_c0, neg_c1]
  by_cases h1 : x.c1 = 0
  · have h0 : x.c0 ≠ 0 := fun e => h (ext' e h1)
    rw [if_pos h1, if_pos (by rw [h1]; grind), fpn.great_neg h0]
  · rw [if_neg h1, if_neg (fun e => h1 (by grind)), fpn.great_neg h1]
theorem great_zero' : (0 : F2).great = false := by
  unfold great
  rw [if_pos (show (0 : F2).c1 = 0 from rfl)]; exact fpn.great_zero

/-- Two roots that are not Great are one. -/
theorem root_uniq {r s : F2} (h : r * r = s * s) (hr : r.great = false) (hs : s.great = false) : r = s := by
  rcases sq_eq' h with e | e
  · exact e
  · by_cases h0 : s = 0
    · rw [e, h0]; exact ext' (by simp only [neg_c0, zero_c0]; grind) (by simp only [neg_c1, zero_c1]; grind)
    · rw [e, great_neg' h0, hs] at hr; cases hr

/-- Is there a root? -/
noncomputable def is2 (a : F2) : Bool := @decide (∃ r : F2, r * r = a) (Classical.propDecidable _)
/-- The root that is not Great; 0 where there is none. -/
noncomputable def sq2 (a : F2) : F2 := @dite _ (∃ r : F2, r * r = a ∧ r.great = false) (Classical.propDecidable _) (fun h => Classical.choose h) (fun _ => 0)
theorem sq2_of {a r : F2} (h : r * r = a) (hg : r.great = false) : sq2 a = r := by
  have hx : ∃ r : F2, r * r = a ∧ r.great = false := ⟨r, h, hg⟩
  unfold sq2
  rw [dif_pos hx]
  have hc := Classical.choose_spec hx
  exact root_uniq (by rw [hc.1, h]) hc.2 hg
theorem is2_of {a r : F2} (h : r * r = a) : is2 a = true := by unfold is2; exact @decide_eq_true _ (Classical.propDecidable _) ⟨r, h⟩
theorem is2_no {a : F2} (h : ∀ r : F2, r * r ≠ a) : is2 a = false ∧ sq2 a = 0 := by
  refine ⟨by unfold is2; exact @decide_eq_false _ (Classical.propDecidable _) (fun ⟨r, hr⟩ => h r hr), ?_⟩
  unfold sq2
  rw [dif_neg (fun ⟨r, hr, _⟩ => h r hr)]

/-- A square's norm is a square. -/
theorem norm_sq {a r : F2} (h : r * r = a) : isq a.norm = true := by
  rw [← h, norm_mul]; exact isq_of rfl

theorem halve {i s c : F} (hi : 2 * i = 1) (e : 2 * s = 2 * c) : s = c := by
  have h1 : s = i * (2 * s) := by grind
  have h2 : c = i * (2 * c) := by grind
  rw [h1, h2, e]
theorem sum2 {t t' c n : F} (ht : t + t = c + n) (ht' : t' + t' = c - n) : (2 : F) * (t + t') = 2 * c := by grind
theorem prod4 {t t' c n d : F} (ht : t + t = c + n) (ht' : t' + t' = c - n) (hn : n * n = c * c + d * d) : 4 * (t * t') = -(d * d) := by
  have : 4 * (t * t') = (t + t) * (t' + t') := by grind
  rw [this, ht, ht']; grind

/-- The halves of a number and its norm's root. -/
theorem cross {a : F2} {n t t' : F} (h1 : a.c1 ≠ 0) (hn : n * n = a.norm) (ht : t + t = a.c0 + n) (ht' : t' + t' = a.c0 - n) :
    t ≠ 0 ∧ t' ≠ 0 ∧ (isq t = true → isq t' = false) ∧ (isq t = false → isq t' = true) ∧ (t + t' = a.c0) ∧ (4 * (t * t') = -(a.c1 * a.c1)) := by
  have e4 : 4 * (t * t') = -(a.c1 * a.c1) := prod4 ht ht' hn
  have hcc : a.c1 * a.c1 ≠ 0 := fun e => by rcases no_zero e with h | h <;> exact h1 h
  have ht0 : t ≠ 0 := fun e => hcc (by rw [e] at e4; grind)
  have ht0' : t' ≠ 0 := fun e => hcc (by rw [e] at e4; grind)
  have hn4 : isq (4 * (t * t')) = false := by rw [e4]; exact isq_not hcc (isq_of rfl)
  have h4 : ∀ x : F, isq x = true → isq (4 * x) = true := fun x hx => isq_of (r := 2 * root x) (by
    have := root_sq hx
    rw [show 2 * root x * (2 * root x) = 4 * (root x * root x) by grind, this])
  refine ⟨ht0, ht0', fun h => ?_, fun h => ?_, ?_, e4⟩
  · cases hq : isq t' with
    | false => rfl
    | true => rw [h4 _ (isq_mul h hq)] at hn4; cases hn4
  · cases hq : isq t' with
    | true => rfl
    | false => rw [h4 _ (isq_mulN h hq)] at hn4; cases hn4
  · exact halve (finv_mul two_ne) (sum2 ht ht')

/-- .. and the root that they make. -/
theorem cross_root {a : F2} {t t' x h i : F} (hh : h + h = 1) (hs : t + t' = a.c0) (h4 : 4 * (t * t') = -(a.c1 * a.c1)) (hx : x * x = t) (hi : x * i = 1) :
    (⟨x, a.c1 * h * i⟩ : F2) * ⟨x, a.c1 * h * i⟩ = a := by
  refine ext' ?_ ?_
  · show x * x - a.c1 * h * i * (a.c1 * h * i) = a.c0
    have e1 : a.c1 * h * i * (a.c1 * h * i) = (a.c1 * a.c1) * (h * h) * (i * i) := by grind
    have e2 : a.c1 * a.c1 = -(4 * (t * t')) := by rw [h4]; grind
    have e3 : 4 * (h * h) = 1 := by
      have : (h + h) * (h + h) = 1 := by rw [hh]; grind
      grind
    have e4 : t * (i * i) = 1 := by rw [← hx]; grind
    rw [e1, e2, ← hs, hx]
    have : -(4 * (t * t')) * (h * h) * (i * i) = -(4 * (h * h)) * (t * (i * i)) * t' := by grind
    rw [this, e3, e4]; grind
  · show x * (a.c1 * h * i) + a.c1 * h * i * x = a.c1
    have : x * (a.c1 * h * i) + a.c1 * h * i * x = a.c1 * (h + h) * (x * i) := by grind
    rw [this, hh, hi]; grind
end F2
end Go.Proofs.YtgoghcmnnhglhaaDoor.fpn

/- Package fp2: roots. -/
namespace Go.Proofs.YtgoghcmnnhglhaaDoor.fpn
open Go.RowKit Pl
set_option linter.unusedVariables false
set_option linter.unusedSimpArgs false
set_option maxRecDepth 4000

/-- 1 / 2. -/
def hf : F := ⟨(RN + 1) / 2, by decide +kernel⟩
theorem hf_two : hf + hf = 1 := by kernel_rfl

set_option maxHeartbeats 4000000 in
theorem fp2flat1 {G : World → Prop} (K : FpK G) (z : F) (w : World) (hg : G w) (hq : isq z = true) : Calls Tryd.prog 68 #[FV z] w (Ret (PV ⟨root z, 0⟩) w) := by
  have hp0 := Heap.start w
  go_enter Tryd.func68, Tryd.ntmps68
  refine wp_seq_k (fun K1 k1 => ?_)
  refine goes (ks := [.alloc (FC z), .alloc (PC 0)]) (T := [0, 0]) (nt := 24) (nh := 0) (H := []) (A := fun L => [FV z, .pointer (some ⟨L.b 0, 0, none⟩), .pointer (some ⟨L.b 1, 0, none⟩), undef, undef, undef, undef, undef, undef, undef, undef, undef, undef, undef, undef, undef, undef, undef, undef, undef, undef, undef, undef, undef]) (H' := fun L => [(L.b 0, FC z), (L.b 1, PC 0)]) (by kernel_rfl) rfl rfl rfl (fun L => by kernel_rfl) (fun L => by kernel_rfl) hp0 ⟨
    ob_box (v := FV z) (fun _ => rfl) rfl rfl (fun _ => by kernel_rfl) rfl,
    ob_alloc (v := PV 0) (fun _ => rfl) rfl rfl zeroP rfl,
    trivial⟩ (fun L0 w1 hp1 => ?_)
  refine k1 _ _ ?_
  refine wp_seq_k (fun K2 k2 => ?_)
  refine wp_seq_k (fun K3 k3 => ?_)
  refine goes (ks := [.det (FV z), .det (.tuple #[FV ((root z)), .bool true]), .det (.tuple #[FV ((root z)), .bool true]), .det (FV ((root z))), .det (.bool true), .alloc (FC 0), .store (.new 5) 0 (FC ((root z))) (FC ((root z))), .det (.bool true)]) (T := [0, 1, 3, 7, 7, 0, 47, 127]) (nt := 24) (nh := 2) (H := [((L0.b 0), FC z), ((L0.b 1), PC 0)]) (A := fun L => [FV z, .pointer (some ⟨(L0.b 0), 0, none⟩), .pointer (some ⟨(L0.b 1), 0, none⟩), .pointer (some ⟨L.b 5, 0, none⟩), .bool true, undef, undef, .tuple #[FV ((root z)), .bool true], FV z, .tuple #[FV ((root z)), .bool true], FV ((root z)), .bool true, undef, undef, undef, undef, undef, undef, undef, undef, undef, undef, undef, undef]) (H' := fun L => [((L0.b 0), FC z), ((L0.b 1), PC 0), (L.b 5, FC ((root z)))]) (by kernel_rfl) rfl rfl rfl (fun L => by kernel_rfl) (fun L => by kernel_rfl) hp1 ⟨
    ob_load (b := (L0.b 0)) (off := 0) (cs := FC z) (by kernel_rfl) (fun _ => rfl) rfl rfl (fun _ => by kernel_rfl) (fun _ _ hs => (seen_at (k := 0) hs rfl).cells) Tryd.underlying24 rfl (sizeFC _),
    ob_call (vs := #[FV z]) (by kernel_rfl) (by kernel_rfl) (fun _ => rfl) rfl rfl (fun _ => by kernel_rfl) (fun w hb _ => by have h := K.sqrt z w (K.stay hg hb); rw [hq] at h; exact h),
    ob_move (fun _ => rfl) rfl rfl (fun _ => by kernel_rfl),
    ob_extract (vs := #[FV ((root z)), .bool true]) (fun _ => rfl) rfl rfl (fun _ => by kernel_rfl) rfl,
    ob_extract (vs := #[FV ((root z)), .bool true]) (fun _ => rfl) rfl rfl (fun _ => by kernel_rfl) rfl,
    ob_alloc (v := FV 0) (fun _ => rfl) rfl rfl zeroF rfl,
    ob_store (old := FC 0) (fun _ => rfl) rfl rfl (fun _ => by kernel_rfl) (fun _ => by kernel_rfl) rfl (sizeFC _) (FC_one _) (le_len (FC_len _) (FC_len _) (by decide)) (splice_all ((FC_len _).trans (FC_len _).symm)).symm,
    ob_assign (fun _ => rfl) rfl rfl (fun _ => by kernel_rfl),
    trivial⟩ (fun L1 w2 hp2 => ?_)
  refine k3 _ _ ?_
  refine wp_seq_k (fun K4 k4 => ?_)
  refine goes (ks := [.det (.bool true)]) (T := [0]) (nt := 24) (nh := 3) (H := [((L0.b 0), FC z), ((L0.b 1), PC 0), ((L1.b 5), FC ((root z)))]) (A := fun L => [FV z, .pointer (some ⟨(L0.b 0), 0, none⟩), .pointer (some ⟨(L0.b 1), 0, none⟩), .pointer (some ⟨(L1.b 5), 0, none⟩), .bool true, undef, undef, .tuple #[FV ((root z)), .bool true], FV z, .tuple #[FV ((root z)), .bool true], FV ((root z)), .bool true, .bool true, undef, undef, undef, undef, undef, undef, undef, undef, undef, undef, undef]) (H' := fun L => [((L0.b 0), FC z), ((L0.b 1), PC 0), ((L1.b 5), FC ((root z)))]) (by kernel_rfl) rfl rfl rfl (fun L => by kernel_rfl) (fun L => by kernel_rfl) hp2 ⟨
    ob_move (fun _ => rfl) rfl rfl (fun _ => by kernel_rfl),
    trivial⟩ (fun L2 w3 hp3 => ?_)
  refine k4 _ _ ?_
  refine wp_cond_true (by kernel_rfl) ?_
  refine wp_seq_k (fun K5 k5 => ?_)
  refine goes (ks := [.det (FV ((root z))), .det (PV (⟨(root z), 0⟩)), .store (.base 1) 0 (PC (⟨(root z), 0⟩)) (PC (⟨(root z), 0⟩))]) (T := [0, 1, 3]) (nt := 24) (nh := 3) (H := [((L0.b 0), FC z), ((L0.b 1), PC 0), ((L1.b 5), FC ((root z)))]) (A := fun L => [FV z, .pointer (some ⟨(L0.b 0), 0, none⟩), .pointer (some ⟨(L0.b 1), 0, none⟩), .pointer (some ⟨(L1.b 5), 0, none⟩), .bool true, undef, undef, .tuple #[FV ((root z)), .bool true], FV z, .tuple #[FV ((root z)), .bool true], FV ((root z)), .bool true, .bool true, FV ((root z)), PV (⟨(root z), 0⟩), undef, undef, undef, undef, undef, undef, undef, undef, undef]) (H' := fun L => [((L0.b 0), FC z), ((L0.b 1), PC (⟨(root z), 0⟩)), ((L1.b 5), FC ((root z)))]) (by kernel_rfl) rfl rfl rfl (fun L => by kernel_rfl) (fun L => by kernel_rfl) hp3 ⟨
    ob_load (b := (L1.b 5)) (off := 0) (cs := FC ((root z))) (by kernel_rfl) (fun _ => rfl) rfl rfl (fun _ => by kernel_rfl) (fun _ _ hs => (seen_at (k := 2) hs rfl).cells) Tryd.underlying24 rfl (sizeFC _),
    ob_build (qs := #[(0, FV ((root z)))]) (fun _ => rfl) rfl rfl (fun _ => by kernel_rfl) (buildPa _),
    ob_store (old := PC 0) (fun _ => rfl) rfl rfl (fun _ => by kernel_rfl) (fun _ => by kernel_rfl) rfl (sizePC _) (PC_one _) (le_len (PC_len _) (PC_len _) (by decide)) (splice_all ((PC_len _).trans (PC_len _).symm)).symm,
    trivial⟩ (fun L3 w4 hp4 => ?_)
  refine k5 _ _ ?_
  refine wp_ret ?_
  exact bodyPost_ret (v := PV (⟨(root z), 0⟩)) (res_c rfl (by kernel_rfl) (hp4.bound 1 rfl).2 Tryd.underlying26 rfl (sizePC _)) rfl ⟨rfl, hp4.bel⟩
set_option maxHeartbeats 4000000 in
theorem fp2flat2 {G : World → Prop} (K : FpK G) (z : F) (w : World) (hg : G w) (hq : isq z = false) : Calls Tryd.prog 68 #[FV z] w (Ret (PV ⟨0, root (-z)⟩) w) := by
  have hp0 := Heap.start w
  go_enter Tryd.func68, Tryd.ntmps68
  refine wp_seq_k (fun K1 k1 => ?_)
  refine goes (ks := [.alloc (FC z), .alloc (PC 0)]) (T := [0, 0]) (nt := 24) (nh := 0) (H := []) (A := fun L => [FV z, .pointer (some ⟨L.b 0, 0, none⟩), .pointer (some ⟨L.b 1, 0, none⟩), undef, undef, undef, undef, undef, undef, undef, undef, undef, undef, undef, undef, undef, undef, undef, undef, undef, undef, undef, undef, undef]) (H' := fun L => [(L.b 0, FC z), (L.b 1, PC 0)]) (by kernel_rfl) rfl rfl rfl (fun L => by kernel_rfl) (fun L => by kernel_rfl) hp0 ⟨
    ob_box (v := FV z) (fun _ => rfl) rfl rfl (fun _ => by kernel_rfl) rfl,
    ob_alloc (v := PV 0) (fun _ => rfl) rfl rfl zeroP rfl,
    trivial⟩ (fun L0 w1 hp1 => ?_)
  refine k1 _ _ ?_
  refine wp_seq_k (fun K2 k2 => ?_)
  refine wp_seq_k (fun K3 k3 => ?_)
  refine goes (ks := [.det (FV z), .det (.tuple #[FV ((root z)), .bool false]), .det (.tuple #[FV ((root z)), .bool false]), .det (FV ((root z))), .det (.bool false), .alloc (FC 0), .store (.new 5) 0 (FC ((root z))) (FC ((root z))), .det (.bool false)]) (T := [0, 1, 3, 7, 7, 0, 47, 127]) (nt := 24) (nh := 2) (H := [((L0.b 0), FC z), ((L0.b 1), PC 0)]) (A := fun L => [FV z, .pointer (some ⟨(L0.b 0), 0, none⟩), .pointer (some ⟨(L0.b 1), 0, none⟩), .pointer (some ⟨L.b 5, 0, none⟩), .bool false, undef, undef, .tuple #[FV ((root z)), .bool false], FV z, .tuple #[FV ((root z)), .bool false], FV ((root z)), .bool false, undef, undef, undef, undef, undef, undef, undef, undef, undef, undef, undef, undef]) (H' := fun L => [((L0.b 0), FC z), ((L0.b 1), PC 0), (L.b 5, FC ((root z)))]) (by kernel_rfl) rfl rfl rfl (fun L => by kernel_rfl) (fun L => by kernel_rfl) hp1 ⟨
    ob_load (b := (L0.b 0)) (off := 0) (cs := FC z) (by kernel_rfl) (fun _ => rfl) rfl rfl (fun _ => by kernel_rfl) (fun _ _ hs => (seen_at (k := 0) hs rfl).cells) Tryd.underlying24 rfl (sizeFC _),
    ob_call (vs := #[FV z]) (by kernel_rfl) (by kernel_rfl) (fun _ => rfl) rfl rfl (fun _ => by kernel_rfl) (fun w hb _ => by have h := K.sqrt z w (K.stay hg hb); rw [hq] at h; exact h),
    ob_move (fun _ => rfl) rfl rfl (fun _ => by kernel_rfl),
    ob_extract (vs := #[FV ((root z)), .bool false]) (fun _ => rfl) rfl rfl (fun _ => by kernel_rfl) rfl,
    ob_extract (vs := #[FV ((root z)), .bool false]) (fun _ => rfl) rfl rfl (fun _ => by kernel_rfl) rfl,
    ob_alloc (v := FV 0) (fun _ => rfl) rfl rfl zeroF rfl,
    ob_store (old := FC 0) (fun _ => rfl) rfl rfl (fun _ => by kernel_rfl) (fun _ => by kernel_rfl) rfl (sizeFC _) (FC_one _) (le_len (FC_len _) (FC_len _) (by decide)) (splice_all ((FC_len _).trans (FC_len _).symm)).symm,
    ob_assign (fun _ => rfl) rfl rfl (fun _ => by kernel_rfl),
    trivial⟩ (fun L1 w2 hp2 => ?_)
  refine k3 _ _ ?_
  refine wp_seq_k (fun K4 k4 => ?_)
  refine goes (ks := [.det (.bool false)]) (T := [0]) (nt := 24) (nh := 3) (H := [((L0.b 0), FC z), ((L0.b 1), PC 0), ((L1.b 5), FC ((root z)))]) (A := fun L => [FV z, .pointer (some ⟨(L0.b 0), 0, none⟩), .pointer (some ⟨(L0.b 1), 0, none⟩), .pointer (some ⟨(L1.b 5), 0, none⟩), .bool false, undef, undef, .tuple #[FV ((root z)), .bool false], FV z, .tuple #[FV ((root z)), .bool false], FV ((root z)), .bool false, .bool false, undef, undef, undef, undef, undef, undef, undef, undef, undef, undef, undef]) (H' := fun L => [((L0.b 0), FC z), ((L0.b 1), PC 0), ((L1.b 5), FC ((root z)))]) (by kernel_rfl) rfl rfl rfl (fun L => by kernel_rfl) (fun L => by kernel_rfl) hp2 ⟨
    ob_move (fun _ => rfl) rfl rfl (fun _ => by kernel_rfl),
    trivial⟩ (fun L2 w3 hp3 => ?_)
  refine k4 _ _ ?_
  refine wp_cond_false (by kernel_rfl) ?_
  refine skips ?_
  refine k2 _ _ ?_
  refine wp_seq_k (fun K5 k5 => ?_)
  refine goes (ks := [.det (FV z), .det (FV ((-z))), .det (.tuple #[FV ((root ((-z)))), .bool (isq ((-z)))]), .det (.tuple #[FV ((root ((-z)))), .bool (isq ((-z)))]), .det (FV ((root ((-z))))), .det (.bool (isq ((-z)))), .alloc (FC 0), .store (.new 6) 0 (FC ((root ((-z))))) (FC ((root ((-z))))), .det (.bool (isq ((-z))))]) (T := [0, 1, 3, 7, 15, 15, 0, 95, 255]) (nt := 24) (nh := 3) (H := [((L0.b 0), FC z), ((L0.b 1), PC 0), ((L1.b 5), FC ((root z)))]) (A := fun L => [FV z, .pointer (some ⟨(L0.b 0), 0, none⟩), .pointer (some ⟨(L0.b 1), 0, none⟩), .pointer (some ⟨(L1.b 5), 0, none⟩), .bool false, .pointer (some ⟨L.b 6, 0, none⟩), .bool (isq ((-z))), .tuple #[FV ((root z)), .bool false], FV z, .tuple #[FV ((root z)), .bool false], FV ((root z)), .bool false, .bool false, undef, undef, .tuple #[FV ((root ((-z)))), .bool (isq ((-z)))], FV z, FV ((-z)), .tuple #[FV ((root ((-z)))), .bool (isq ((-z)))], FV ((root ((-z)))), .bool (isq ((-z))), undef, undef, undef]) (H' := fun L => [((L0.b 0), FC z), ((L0.b 1), PC 0), ((L1.b 5), FC ((root z))), (L.b 6, FC ((root ((-z)))))]) (by kernel_rfl) rfl rfl rfl (fun L => by kernel_rfl) (fun L => by kernel_rfl) hp3 ⟨
    ob_load (b := (L0.b 0)) (off := 0) (cs := FC z) (by kernel_rfl) (fun _ => rfl) rfl rfl (fun _ => by kernel_rfl) (fun _ _ hs => (seen_at (k := 0) hs rfl).cells) Tryd.underlying24 rfl (sizeFC _),
    ob_call (vs := #[FV z]) (by kernel_rfl) (by kernel_rfl) (fun _ => rfl) rfl rfl (fun _ => by kernel_rfl) (fun w hb _ => K.neg _ w (K.stay hg hb)),
    ob_call (vs := #[FV ((-z))]) (by kernel_rfl) (by kernel_rfl) (fun _ => rfl) rfl rfl (fun _ => by kernel_rfl) (fun w hb _ => K.sqrt _ w (K.stay hg hb)),
    ob_move (fun _ => rfl) rfl rfl (fun _ => by kernel_rfl),
    ob_extract (vs := #[FV ((root ((-z)))), .bool (isq ((-z)))]) (fun _ => rfl) rfl rfl (fun _ => by kernel_rfl) rfl,
    ob_extract (vs := #[FV ((root ((-z)))), .bool (isq ((-z)))]) (fun _ => rfl) rfl rfl (fun _ => by kernel_rfl) rfl,
    ob_alloc (v := FV 0) (fun _ => rfl) rfl rfl zeroF rfl,
    ob_store (old := FC 0) (fun _ => rfl) rfl rfl (fun _ => by kernel_rfl) (fun _ => by kernel_rfl) rfl (sizeFC _) (FC_one _) (le_len (FC_len _) (FC_len _) (by decide)) (splice_all ((FC_len _).trans (FC_len _).symm)).symm,
    ob_assign (fun _ => rfl) rfl rfl (fun _ => by kernel_rfl),
    trivial⟩ (fun L3 w4 hp4 => ?_)
  refine k5 _ _ ?_
  refine wp_seq_k (fun K6 k6 => ?_)
  refine goes (ks := [.det (FV 0), .det (FV ((root ((-z))))), .det (PV (⟨0, (root ((-z)))⟩)), .store (.base 1) 0 (PC (⟨0, (root ((-z)))⟩)) (PC (⟨0, (root ((-z)))⟩))]) (T := [0, 0, 3, 7]) (nt := 24) (nh := 4) (H := [((L0.b 0), FC z), ((L0.b 1), PC 0), ((L1.b 5), FC ((root z))), ((L3.b 6), FC ((root ((-z)))))]) (A := fun L => [FV z, .pointer (some ⟨(L0.b 0), 0, none⟩), .pointer (some ⟨(L0.b 1), 0, none⟩), .pointer (some ⟨(L1.b 5), 0, none⟩), .bool false, .pointer (some ⟨(L3.b 6), 0, none⟩), .bool (isq ((-z))), .tuple #[FV ((root z)), .bool false], FV z, .tuple #[FV ((root z)), .bool false], FV ((root z)), .bool false, .bool false, undef, undef, .tuple #[FV ((root ((-z)))), .bool (isq ((-z)))], FV z, FV ((-z)), .tuple #[FV ((root ((-z)))), .bool (isq ((-z)))], FV ((root ((-z)))), .bool (isq ((-z))), FV 0, FV ((root ((-z)))), PV (⟨0, (root ((-z)))⟩)]) (H' := fun L => [((L0.b 0), FC z), ((L0.b 1), PC (⟨0, (root ((-z)))⟩)), ((L1.b 5), FC ((root z))), ((L3.b 6), FC ((root ((-z)))))]) (by kernel_rfl) rfl rfl rfl (fun L => by kernel_rfl) (fun L => by kernel_rfl) hp4 ⟨
    ob_build (qs := #[]) (fun _ => rfl) rfl rfl (fun _ => by kernel_rfl) buildF0,
    ob_load (b := (L3.b 6)) (off := 0) (cs := FC ((root ((-z))))) (by kernel_rfl) (fun _ => rfl) rfl rfl (fun _ => by kernel_rfl) (fun _ _ hs => (seen_at (k := 3) hs rfl).cells) Tryd.underlying24 rfl (sizeFC _),
    ob_build (qs := #[(0, FV 0), (1, FV ((root ((-z)))))]) (fun _ => rfl) rfl rfl (fun _ => by kernel_rfl) (buildP _ _),
    ob_store (old := PC 0) (fun _ => rfl) rfl rfl (fun _ => by kernel_rfl) (fun _ => by kernel_rfl) rfl (sizePC _) (PC_one _) (le_len (PC_len _) (PC_len _) (by decide)) (splice_all ((PC_len _).trans (PC_len _).symm)).symm,
    trivial⟩ (fun L4 w5 hp5 => ?_)
  refine k6 _ _ ?_
  refine wp_ret ?_
  exact bodyPost_ret (v := PV (⟨0, (root ((-z)))⟩)) (res_c rfl (by kernel_rfl) (hp5.bound 1 rfl).2 Tryd.underlying26 rfl (sizePC _)) rfl ⟨rfl, hp5.bel⟩
set_option maxHeartbeats 4000000 in
theorem fp2cross0 {G : World → Prop} (K : FpK G) (x : F2) (w : World) (hg : G w) (hq : isq x.norm = false) : Calls Tryd.prog 69 #[PV x] w (Ret (PV 0) w) := by
  have hp0 := Heap.start w
  go_enter Tryd.func69, Tryd.ntmps69
  refine wp_seq_k (fun K1 k1 => ?_)
  refine goes (ks := [.alloc (PC x), .alloc (PC 0)]) (T := [0, 0]) (nt := 52) (nh := 0) (H := []) (A := fun L => [PV x, .pointer (some ⟨L.b 0, 0, none⟩), .pointer (some ⟨L.b 1, 0, none⟩), undef, undef, undef, undef, undef, undef, undef, undef, undef, undef, undef, undef, undef, undef, undef, undef, undef, undef, undef, undef, undef, undef, undef, undef, undef, undef, undef, undef, undef, undef, undef, undef, undef, undef, undef, undef, undef, undef, undef, undef, undef, undef, undef, undef, undef, undef, undef, undef, undef]) (H' := fun L => [(L.b 0, PC x), (L.b 1, PC 0)]) (by kernel_rfl) rfl rfl rfl (fun L => by kernel_rfl) (fun L => by kernel_rfl) hp0 ⟨
    ob_box (v := PV x) (fun _ => rfl) rfl rfl (fun _ => by kernel_rfl) rfl,
    ob_alloc (v := PV 0) (fun _ => rfl) rfl rfl zeroP rfl,
    trivial⟩ (fun L0 w1 hp1 => ?_)
  refine k1 _ _ ?_
  refine wp_seq_k (fun K2 k2 => ?_)
  refine goes (ks := [.det (PV x), .det (FV x.norm), .det (.tuple #[FV ((root x.norm)), .bool false]), .det (.tuple #[FV ((root x.norm)), .bool false]), .det (FV ((root x.norm))), .det (.bool false), .alloc (FC 0), .store (.new 6) 0 (FC ((root x.norm))) (FC ((root x.norm))), .det (.bool false)]) (T := [0, 1, 3, 7, 15, 15, 0, 95, 255]) (nt := 52) (nh := 2) (H := [((L0.b 0), PC x), ((L0.b 1), PC 0)]) (A := fun L => [PV x, .pointer (some ⟨(L0.b 0), 0, none⟩), .pointer (some ⟨(L0.b 1), 0, none⟩), .pointer (some ⟨L.b 6, 0, none⟩), .bool false, undef, undef, undef, .tuple #[FV ((root x.norm)), .bool false], PV x, FV x.norm, .tuple #[FV ((root x.norm)), .bool false], FV ((root x.norm)), .bool false, undef, undef, undef, undef, undef, undef, undef, undef, undef, undef, undef, undef, undef, undef, undef, undef, undef, undef, undef, undef, undef, undef, undef, undef, undef, undef, undef, undef, undef, undef, undef, undef, undef, undef, undef, undef, undef, undef]) (H' := fun L => [((L0.b 0), PC x), ((L0.b 1), PC 0), (L.b 6, FC ((root x.norm)))]) (by kernel_rfl) rfl rfl rfl (fun L => by kernel_rfl) (fun L => by kernel_rfl) hp1 ⟨
    ob_load (b := (L0.b 0)) (off := 0) (cs := PC x) (by kernel_rfl) (fun _ => rfl) rfl rfl (fun _ => by kernel_rfl) (fun _ _ hs => (seen_at (k := 0) hs rfl).cells) Tryd.underlying26 rfl (sizePC _),
    ob_call (vs := #[PV x]) (by kernel_rfl) (by kernel_rfl) (fun _ => rfl) rfl rfl (fun _ => by kernel_rfl) (fun w hb _ => fp2norm K _ w (K.stay hg hb)),
    ob_call (vs := #[FV x.norm]) (by kernel_rfl) (by kernel_rfl) (fun _ => rfl) rfl rfl (fun _ => by kernel_rfl) (fun w hb _ => by have h := K.sqrt x.norm w (K.stay hg hb); rw [hq] at h; exact h),
    ob_move (fun _ => rfl) rfl rfl (fun _ => by kernel_rfl),
    ob_extract (vs := #[FV ((root x.norm)), .bool false]) (fun _ => rfl) rfl rfl (fun _ => by kernel_rfl) rfl,
    ob_extract (vs := #[FV ((root x.norm)), .bool false]) (fun _ => rfl) rfl rfl (fun _ => by kernel_rfl) rfl,
    ob_alloc (v := FV 0) (fun _ => rfl) rfl rfl zeroF rfl,
    ob_store (old := FC 0) (fun _ => rfl) rfl rfl (fun _ => by kernel_rfl) (fun _ => by kernel_rfl) rfl (sizeFC _) (FC_one _) (le_len (FC_len _) (FC_len _) (by decide)) (splice_all ((FC_len _).trans (FC_len _).symm)).symm,
    ob_assign (fun _ => rfl) rfl rfl (fun _ => by kernel_rfl),
    trivial⟩ (fun L1 w2 hp2 => ?_)
  refine k2 _ _ ?_
  refine wp_seq_k (fun K3 k3 => ?_)
  refine wp_seq_k (fun K4 k4 => ?_)
  refine goes (ks := [.det (.bool false), .det (.bool true)]) (T := [0, 1]) (nt := 52) (nh := 3) (H := [((L0.b 0), PC x), ((L0.b 1), PC 0), ((L1.b 6), FC ((root x.norm)))]) (A := fun L => [PV x, .pointer (some ⟨(L0.b 0), 0, none⟩), .pointer (some ⟨(L0.b 1), 0, none⟩), .pointer (some ⟨(L1.b 6), 0, none⟩), .bool false, undef, undef, undef, .tuple #[FV ((root x.norm)), .bool false], PV x, FV x.norm, .tuple #[FV ((root x.norm)), .bool false], FV ((root x.norm)), .bool false, .bool false, .bool true, undef, undef, undef, undef, undef, undef, undef, undef, undef, undef, undef, undef, undef, undef, undef, undef, undef, undef, undef, undef, undef, undef, undef, undef, undef, undef, undef, undef, undef, undef, undef, undef, undef, undef, undef, undef]) (H' := fun L => [((L0.b 0), PC x), ((L0.b 1), PC 0), ((L1.b 6), FC ((root x.norm)))]) (by kernel_rfl) rfl rfl rfl (fun L => by kernel_rfl) (fun L => by kernel_rfl) hp2 ⟨
    ob_move (fun _ => rfl) rfl rfl (fun _ => by kernel_rfl),
    ob_not (b := false) (fun _ => rfl) rfl rfl (fun _ => by kernel_rfl),
    trivial⟩ (fun L2 w3 hp3 => ?_)
  refine k4 _ _ ?_
  refine wp_cond_true (by kernel_rfl) ?_
  refine wp_seq_k (fun K5 k5 => ?_)
  refine goes (ks := [.det (PV 0), .store (.base 1) 0 (PC 0) (PC 0)]) (T := [0, 1]) (nt := 52) (nh := 3) (H := [((L0.b 0), PC x), ((L0.b 1), PC 0), ((L1.b 6), FC ((root x.norm)))]) (A := fun L => [PV x, .pointer (some ⟨(L0.b 0), 0, none⟩), .pointer (some ⟨(L0.b 1), 0, none⟩), .pointer (some ⟨(L1.b 6), 0, none⟩), .bool false, undef, undef, undef, .tuple #[FV ((root x.norm)), .bool false], PV x, FV x.norm, .tuple #[FV ((root x.norm)), .bool false], FV ((root x.norm)), .bool false, .bool false, .bool true, PV 0, undef, undef, undef, undef, undef, undef, undef, undef, undef, undef, undef, undef, undef, undef, undef, undef, undef, undef, undef, undef, undef, undef, undef, undef, undef, undef, undef, undef, undef, undef, undef, undef, undef, undef, undef]) (H' := fun L => [((L0.b 0), PC x), ((L0.b 1), PC 0), ((L1.b 6), FC ((root x.norm)))]) (by kernel_rfl) rfl rfl rfl (fun L => by kernel_rfl) (fun L => by kernel_rfl) hp3 ⟨
    ob_build (qs := #[]) (fun _ => rfl) rfl rfl (fun _ => by kernel_rfl) buildP0,
    ob_store (old := PC 0) (fun _ => rfl) rfl rfl (fun _ => by kernel_rfl) (fun _ => by kernel_rfl) rfl (sizePC _) (PC_one _) (le_len (PC_len _) (PC_len _) (by decide)) (splice_all ((PC_len _).trans (PC_len _).symm)).symm,
    trivial⟩ (fun L3 w4 hp4 => ?_)
  refine k5 _ _ ?_
  refine wp_ret ?_
  exact bodyPost_ret (v := PV 0) (res_c rfl (by kernel_rfl) (hp4.bound 1 rfl).2 Tryd.underlying26 rfl (sizePC _)) rfl ⟨rfl, hp4.bel⟩
set_option maxHeartbeats 4000000 in
theorem fp2cross1 {G : World → Prop} (K : FpK G) (x : F2) (w : World) (hg : G w) (hH : ∀ w, G w → w.rangeAt 2 0 (FC hf)) (hq : isq x.norm = true) (ht : isq ((x.c0 + (root x.norm)) * hf) = true) (hn : root ((x.c0 + (root x.norm)) * hf) ≠ 0) : Calls Tryd.prog 69 #[PV x] w (Ret (PV ⟨root ((x.c0 + (root x.norm)) * hf), x.c1 * hf * finv (root ((x.c0 + (root x.norm)) * hf))⟩) w) := by
  have hp0 := Heap.start w
  go_enter Tryd.func69, Tryd.ntmps69
  refine wp_seq_k (fun K1 k1 => ?_)
  refine goes (ks := [.alloc (PC x), .alloc (PC 0)]) (T := [0, 0]) (nt := 52) (nh := 0) (H := []) (A := fun L => [PV x, .pointer (some ⟨L.b 0, 0, none⟩), .pointer (some ⟨L.b 1, 0, none⟩), undef, undef, undef, undef, undef, undef, undef, undef, undef, undef, undef, undef, undef, undef, undef, undef, undef, undef, undef, undef, undef, undef, undef, undef, undef, undef, undef, undef, undef, undef, undef, undef, undef, undef, undef, undef, undef, undef, undef, undef, undef, undef, undef, undef, undef, undef, undef, undef, undef]) (H' := fun L => [(L.b 0, PC x), (L.b 1, PC 0)]) (by kernel_rfl) rfl rfl rfl (fun L => by kernel_rfl) (fun L => by kernel_rfl) hp0 ⟨
    ob_box (v := PV x) (fun _ => rfl) rfl rfl (fun _ => by kernel_rfl) rfl,
    ob_alloc (v := PV 0) (fun _ => rfl) rfl rfl zeroP rfl,
    trivial⟩ (fun L0 w1 hp1 => ?_)
  refine k1 _ _ ?_
  refine wp_seq_k (fun K2 k2 => ?_)
  refine goes (ks := [.det (PV x), .det (FV x.norm), .det (.tuple #[FV ((root x.norm)), .bool true]), .det (.tuple #[FV ((root x.norm)), .bool true]), .det (FV ((root x.norm))), .det (.bool true), .alloc (FC 0), .store (.new 6) 0 (FC ((root x.norm))) (FC ((root x.norm))), .det (.bool true)]) (T := [0, 1, 3, 7, 15, 15, 0, 95, 255]) (nt := 52) (nh := 2) (H := [((L0.b 0), PC x), ((L0.b 1), PC 0)]) (A := fun L => [PV x, .pointer (some ⟨(L0.b 0), 0, none⟩), .pointer (some ⟨(L0.b 1), 0, none⟩), .pointer (some ⟨L.b 6, 0, none⟩), .bool true, undef, undef, undef, .tuple #[FV ((root x.norm)), .bool true], PV x, FV x.norm, .tuple #[FV ((root x.norm)), .bool true], FV ((root x.norm)), .bool true, undef, undef, undef, undef, undef, undef, undef, undef, undef, undef, undef, undef, undef, undef, undef, undef, undef, undef, undef, undef, undef, undef, undef, undef, undef, undef, undef, undef, undef, undef, undef, undef, undef, undef, undef, undef, undef, undef]) (H' := fun L => [((L0.b 0), PC x), ((L0.b 1), PC 0), (L.b 6, FC ((root x.norm)))]) (by kernel_rfl) rfl rfl rfl (fun L => by kernel_rfl) (fun L => by kernel_rfl) hp1 ⟨
    ob_load (b := (L0.b 0)) (off := 0) (cs := PC x) (by kernel_rfl) (fun _ => rfl) rfl rfl (fun _ => by kernel_rfl) (fun _ _ hs => (seen_at (k := 0) hs rfl).cells) Tryd.underlying26 rfl (sizePC _),
    ob_call (vs := #[PV x]) (by kernel_rfl) (by kernel_rfl) (fun _ => rfl) rfl rfl (fun _ => by kernel_rfl) (fun w hb _ => fp2norm K _ w (K.stay hg hb)),
    ob_call (vs := #[FV x.norm]) (by kernel_rfl) (by kernel_rfl) (fun _ => rfl) rfl rfl (fun _ => by kernel_rfl) (fun w hb _ => by have h := K.sqrt x.norm w (K.stay hg hb); rw [hq] at h; exact h),
    ob_move (fun _ => rfl) rfl rfl (fun _ => by kernel_rfl),
    ob_extract (vs := #[FV ((root x.norm)), .bool true]) (fun _ => rfl) rfl rfl (fun _ => by kernel_rfl) rfl,
    ob_extract (vs := #[FV ((root x.norm)), .bool true]) (fun _ => rfl) rfl rfl (fun _ => by kernel_rfl) rfl,
    ob_alloc (v := FV 0) (fun _ => rfl) rfl rfl zeroF rfl,
    ob_store (old := FC 0) (fun _ => rfl) rfl rfl (fun _ => by kernel_rfl) (fun _ => by kernel_rfl) rfl (sizeFC _) (FC_one _) (le_len (FC_len _) (FC_len _) (by decide)) (splice_all ((FC_len _).trans (FC_len _).symm)).symm,
    ob_assign (fun _ => rfl) rfl rfl (fun _ => by kernel_rfl),
    trivial⟩ (fun L1 w2 hp2 => ?_)
  refine k2 _ _ ?_
  refine wp_seq_k (fun K3 k3 => ?_)
  refine wp_seq_k (fun K4 k4 => ?_)
  refine goes (ks := [.det (.bool true), .det (.bool false)]) (T := [0, 1]) (nt := 52) (nh := 3) (H := [((L0.b 0), PC x), ((L0.b 1), PC 0), ((L1.b 6), FC ((root x.norm)))]) (A := fun L => [PV x, .pointer (some ⟨(L0.b 0), 0, none⟩), .pointer (some ⟨(L0.b 1), 0, none⟩), .pointer (some ⟨(L1.b 6), 0, none⟩), .bool true, undef, undef, undef, .tuple #[FV ((root x.norm)), .bool true], PV x, FV x.norm, .tuple #[FV ((root x.norm)), .bool true], FV ((root x.norm)), .bool true, .bool true, .bool false, undef, undef, undef, undef, undef, undef, undef, undef, undef, undef, undef, undef, undef, undef, undef, undef, undef, undef, undef, undef, undef, undef, undef, undef, undef, undef, undef, undef, undef, undef, undef, undef, undef, undef, undef, undef]) (H' := fun L => [((L0.b 0), PC x), ((L0.b 1), PC 0), ((L1.b 6), FC ((root x.norm)))]) (by kernel_rfl) rfl rfl rfl (fun L => by kernel_rfl) (fun L => by kernel_rfl) hp2 ⟨
    ob_move (fun _ => rfl) rfl rfl (fun _ => by kernel_rfl),
    ob_not (b := true) (fun _ => rfl) rfl rfl (fun _ => by kernel_rfl),
    trivial⟩ (fun L2 w3 hp3 => ?_)
  refine k4 _ _ ?_
  refine wp_cond_false (by kernel_rfl) ?_
  refine skips ?_
  refine k3 _ _ ?_
  refine wp_seq_k (fun K5 k5 => ?_)
  refine draws (by kernel_rfl) (ks := [.det (.pointer (some ⟨(L0.b 0), 0, none⟩)), .det (FV x.c0), .det (FV ((root x.norm))), .det (FV ((x.c0 + (root x.norm)))), .det (FV hf), .det (FV (((x.c0 + (root x.norm)) * hf))), .det (.tuple #[FV ((root (((x.c0 + (root x.norm)) * hf)))), .bool true]), .det (.tuple #[FV ((root (((x.c0 + (root x.norm)) * hf)))), .bool true]), .det (FV ((root (((x.c0 + (root x.norm)) * hf))))), .det (.bool true), .alloc (FC 0), .store (.new 10) 0 (FC ((root (((x.c0 + (root x.norm)) * hf))))) (FC ((root (((x.c0 + (root x.norm)) * hf))))), .det (.bool true)]) (T := [0, 1, 0, 7, 0, 31, 63, 127, 255, 255, 0, 1535, 4095]) (nt := 52) (nh := 3) (H := [((L0.b 0), PC x), ((L0.b 1), PC 0), ((L1.b 6), FC ((root x.norm)))]) (A := fun L => [PV x, .pointer (some ⟨(L0.b 0), 0, none⟩), .pointer (some ⟨(L0.b 1), 0, none⟩), .pointer (some ⟨(L1.b 6), 0, none⟩), .bool true, .pointer (some ⟨L.b 10, 0, none⟩), undef, undef, .tuple #[FV ((root x.norm)), .bool true], PV x, FV x.norm, .tuple #[FV ((root x.norm)), .bool true], FV ((root x.norm)), .bool true, .bool true, .bool false, undef, .tuple #[FV ((root (((x.c0 + (root x.norm)) * hf)))), .bool true], .pointer (some ⟨(L0.b 0), 0, none⟩), FV x.c0, FV ((root x.norm)), FV ((x.c0 + (root x.norm))), FV hf, FV (((x.c0 + (root x.norm)) * hf)), .tuple #[FV ((root (((x.c0 + (root x.norm)) * hf)))), .bool true], FV ((root (((x.c0 + (root x.norm)) * hf)))), .bool true, undef, undef, undef, undef, undef, undef, undef, undef, undef, undef, undef, undef, undef, undef, undef, undef, undef, undef, undef, undef, undef, undef, undef, undef, undef]) (H' := fun L => [((L0.b 0), PC x), ((L0.b 1), PC 0), ((L1.b 6), FC ((root x.norm))), (L.b 10, FC ((root (((x.c0 + (root x.norm)) * hf)))))]) (by kernel_rfl) rfl rfl rfl (fun L => by kernel_rfl) (fun L => by kernel_rfl) hp3 ⟨
    ob_index (b := (L0.b 0)) (off := 0) (k := 0) (sz := 6) (n := 2) (fun _ => rfl) rfl rfl (fun _ => by kernel_rfl) (fun _ => by kernel_rfl) Tryd.underlying26 sizeF (by decide) rfl,
    ob_load (b := (L0.b 0)) (off := 0) (cs := FC x.c0) (by kernel_rfl) (fun _ => rfl) rfl rfl (fun _ => by kernel_rfl) (fun _ _ hs => partF2_0 (seen_at (k := 0) hs rfl)) Tryd.underlying24 rfl (sizeFC _),
    ob_load (b := (L1.b 6)) (off := 0) (cs := FC ((root x.norm))) (by kernel_rfl) (fun _ => rfl) rfl rfl (fun _ => by kernel_rfl) (fun _ _ hs => (seen_at (k := 2) hs rfl).cells) Tryd.underlying24 rfl (sizeFC _),
    ob_call (vs := #[FV x.c0, FV ((root x.norm))]) (by kernel_rfl) (by kernel_rfl) (fun _ => rfl) rfl rfl (fun _ => by kernel_rfl) (fun w hb _ => K.add _ _ w (K.stay hg hb)),
    ob_load (b := 2) (off := 0) (cs := FC hf) (by kernel_rfl) (fun _ => rfl) rfl rfl (fun _ => by kernel_rfl) (fun _ w hs => hH w (K.stay hg hs.bel)) Tryd.underlying24 rfl (sizeFC _),
    ob_call (vs := #[FV ((x.c0 + (root x.norm))), FV hf]) (by kernel_rfl) (by kernel_rfl) (fun _ => rfl) rfl rfl (fun _ => by kernel_rfl) (fun w hb _ => K.mul _ _ w (K.stay hg hb)),
    ob_call (vs := #[FV (((x.c0 + (root x.norm)) * hf))]) (by kernel_rfl) (by kernel_rfl) (fun _ => rfl) rfl rfl (fun _ => by kernel_rfl) (fun w hb _ => by have h := K.sqrt (((x.c0 + (root x.norm)) * hf)) w (K.stay hg hb); rw [ht] at h; exact h),
    ob_move (fun _ => rfl) rfl rfl (fun _ => by kernel_rfl),
    ob_extract (vs := #[FV ((root (((x.c0 + (root x.norm)) * hf)))), .bool true]) (fun _ => rfl) rfl rfl (fun _ => by kernel_rfl) rfl,
    ob_extract (vs := #[FV ((root (((x.c0 + (root x.norm)) * hf)))), .bool true]) (fun _ => rfl) rfl rfl (fun _ => by kernel_rfl) rfl,
    ob_alloc (v := FV 0) (fun _ => rfl) rfl rfl zeroF rfl,
    ob_store (old := FC 0) (fun _ => rfl) rfl rfl (fun _ => by kernel_rfl) (fun _ => by kernel_rfl) rfl (sizeFC _) (FC_one _) (le_len (FC_len _) (FC_len _) (by decide)) (splice_all ((FC_len _).trans (FC_len _).symm)).symm,
    ob_assign (fun _ => rfl) rfl rfl (fun _ => by kernel_rfl),
    trivial⟩ (fun L3 w4 hp4 => ?_)
  refine k5 _ _ ?_
  refine wp_seq_k (fun K6 k6 => ?_)
  refine wp_seq_k (fun K7 k7 => ?_)
  refine goes (ks := [.det (.bool true), .det (.bool false)]) (T := [0, 1]) (nt := 52) (nh := 4) (H := [((L0.b 0), PC x), ((L0.b 1), PC 0), ((L1.b 6), FC ((root x.norm))), ((L3.b 10), FC ((root (((x.c0 + (root x.norm)) * hf)))))]) (A := fun L => [PV x, .pointer (some ⟨(L0.b 0), 0, none⟩), .pointer (some ⟨(L0.b 1), 0, none⟩), .pointer (some ⟨(L1.b 6), 0, none⟩), .bool true, .pointer (some ⟨(L3.b 10), 0, none⟩), undef, undef, .tuple #[FV ((root x.norm)), .bool true], PV x, FV x.norm, .tuple #[FV ((root x.norm)), .bool true], FV ((root x.norm)), .bool true, .bool true, .bool false, undef, .tuple #[FV ((root (((x.c0 + (root x.norm)) * hf)))), .bool true], .pointer (some ⟨(L0.b 0), 0, none⟩), FV x.c0, FV ((root x.norm)), FV ((x.c0 + (root x.norm))), FV hf, FV (((x.c0 + (root x.norm)) * hf)), .tuple #[FV ((root (((x.c0 + (root x.norm)) * hf)))), .bool true], FV ((root (((x.c0 + (root x.norm)) * hf)))), .bool true, .bool true, .bool false, undef, undef, undef, undef, undef, undef, undef, undef, undef, undef, undef, undef, undef, undef, undef, undef, undef, undef, undef, undef, undef, undef, undef]) (H' := fun L => [((L0.b 0), PC x), ((L0.b 1), PC 0), ((L1.b 6), FC ((root x.norm))), ((L3.b 10), FC ((root (((x.c0 + (root x.norm)) * hf)))))]) (by kernel_rfl) rfl rfl rfl (fun L => by kernel_rfl) (fun L => by kernel_rfl) hp4 ⟨
    ob_move (fun _ => rfl) rfl rfl (fun _ => by kernel_rfl),
    ob_not (b := true) (fun _ => rfl) rfl rfl (fun _ => by kernel_rfl),
    trivial⟩ (fun L4 w5 hp5 => ?_)
  refine k7 _ _ ?_
  refine wp_cond_false (by kernel_rfl) ?_
  refine skips ?_
  refine k6 _ _ ?_
  refine wp_seq_k (fun K8 k8 => ?_)
  refine goes (ks := [.det (FV ((root (((x.c0 + (root x.norm)) * hf))))), .det (.tuple #[FV ((finv ((root (((x.c0 + (root x.norm)) * hf)))))), .int .i64 0]), .det (.tuple #[FV ((finv ((root (((x.c0 + (root x.norm)) * hf)))))), .int .i64 0]), .det (FV ((finv ((root (((x.c0 + (root x.norm)) * hf))))))), .det (.int .i64 0), .alloc (FC 0), .store (.new 5) 0 (FC ((finv ((root (((x.c0 + (root x.norm)) * hf))))))) (FC ((finv ((root (((x.c0 + (root x.norm)) * hf))))))), .det (.int .i64 0)]) (T := [0, 1, 3, 7, 7, 0, 47, 127]) (nt := 52) (nh := 4) (H := [((L0.b 0), PC x), ((L0.b 1), PC 0), ((L1.b 6), FC ((root x.norm))), ((L3.b 10), FC ((root (((x.c0 + (root x.norm)) * hf)))))]) (A := fun L => [PV x, .pointer (some ⟨(L0.b 0), 0, none⟩), .pointer (some ⟨(L0.b 1), 0, none⟩), .pointer (some ⟨(L1.b 6), 0, none⟩), .bool true, .pointer (some ⟨(L3.b 10), 0, none⟩), .pointer (some ⟨L.b 5, 0, none⟩), .int .i64 0, .tuple #[FV ((root x.norm)), .bool true], PV x, FV x.norm, .tuple #[FV ((root x.norm)), .bool true], FV ((root x.norm)), .bool true, .bool true, .bool false, undef, .tuple #[FV ((root (((x.c0 + (root x.norm)) * hf)))), .bool true], .pointer (some ⟨(L0.b 0), 0, none⟩), FV x.c0, FV ((root x.norm)), FV ((x.c0 + (root x.norm))), FV hf, FV (((x.c0 + (root x.norm)) * hf)), .tuple #[FV ((root (((x.c0 + (root x.norm)) * hf)))), .bool true], FV ((root (((x.c0 + (root x.norm)) * hf)))), .bool true, .bool true, .bool false, undef, undef, undef, undef, undef, undef, undef, undef, undef, undef, .tuple #[FV ((finv ((root (((x.c0 + (root x.norm)) * hf)))))), .int .i64 0], FV ((root (((x.c0 + (root x.norm)) * hf)))), .tuple #[FV ((finv ((root (((x.c0 + (root x.norm)) * hf)))))), .int .i64 0], FV ((finv ((root (((x.c0 + (root x.norm)) * hf)))))), .int .i64 0, undef, undef, undef, undef, undef, undef, undef, undef]) (H' := fun L => [((L0.b 0), PC x), ((L0.b 1), PC 0), ((L1.b 6), FC ((root x.norm))), ((L3.b 10), FC ((root (((x.c0 + (root x.norm)) * hf))))), (L.b 5, FC ((finv ((root (((x.c0 + (root x.norm)) * hf)))))))]) (by kernel_rfl) rfl rfl rfl (fun L => by kernel_rfl) (fun L => by kernel_rfl) hp5 ⟨
    ob_load (b := (L3.b 10)) (off := 0) (cs := FC ((root (((x.c0 + (root x.norm)) * hf))))) (by kernel_rfl) (fun _ => rfl) rfl rfl (fun _ => by kernel_rfl) (fun _ _ hs => (seen_at (k := 3) hs rfl).cells) Tryd.underlying24 rfl (sizeFC _),
    ob_call (vs := #[FV ((root (((x.c0 + (root x.norm)) * hf))))]) (by kernel_rfl) (by kernel_rfl) (fun _ => rfl) rfl rfl (fun _ => by kernel_rfl) (fun w hb _ => K.inv _ w (K.stay hg hb) hn),
    ob_move (fun _ => rfl) rfl rfl (fun _ => by kernel_rfl),
    ob_extract (vs := #[FV ((finv ((root (((x.c0 + (root x.norm)) * hf)))))), .int .i64 0]) (fun _ => rfl) rfl rfl (fun _ => by kernel_rfl) rfl,
    ob_extract (vs := #[FV ((finv ((root (((x.c0 + (root x.norm)) * hf)))))), .int .i64 0]) (fun _ => rfl) rfl rfl (fun _ => by kernel_rfl) rfl,
    ob_alloc (v := FV 0) (fun _ => rfl) rfl rfl zeroF rfl,
    ob_store (old := FC 0) (fun _ => rfl) rfl rfl (fun _ => by kernel_rfl) (fun _ => by kernel_rfl) rfl (sizeFC _) (FC_one _) (le_len (FC_len _) (FC_len _) (by decide)) (splice_all ((FC_len _).trans (FC_len _).symm)).symm,
    ob_assign (fun _ => rfl) rfl rfl (fun _ => by kernel_rfl),
    trivial⟩ (fun L5 w6 hp6 => ?_)
  refine k8 _ _ ?_
  refine wp_seq_k (fun K9 k9 => ?_)
  refine draws (by kernel_rfl) (ks := [.det (FV ((root (((x.c0 + (root x.norm)) * hf))))), .det (.pointer (some ⟨(L0.b 0), 6, none⟩)), .det (FV x.c1), .det (FV hf), .det (FV ((x.c1 * hf))), .det (FV ((finv ((root (((x.c0 + (root x.norm)) * hf))))))), .det (FV (((x.c1 * hf) * (finv ((root (((x.c0 + (root x.norm)) * hf)))))))), .det (PV (⟨(root (((x.c0 + (root x.norm)) * hf))), ((x.c1 * hf) * (finv ((root (((x.c0 + (root x.norm)) * hf))))))⟩)), .store (.base 1) 0 (PC (⟨(root (((x.c0 + (root x.norm)) * hf))), ((x.c1 * hf) * (finv ((root (((x.c0 + (root x.norm)) * hf))))))⟩)) (PC (⟨(root (((x.c0 + (root x.norm)) * hf))), ((x.c1 * hf) * (finv ((root (((x.c0 + (root x.norm)) * hf))))))⟩))]) (T := [0, 0, 2, 0, 14, 0, 62, 127, 255]) (nt := 52) (nh := 5) (H := [((L0.b 0), PC x), ((L0.b 1), PC 0), ((L1.b 6), FC ((root x.norm))), ((L3.b 10), FC ((root (((x.c0 + (root x.norm)) * hf))))), ((L5.b 5), FC ((finv ((root (((x.c0 + (root x.norm)) * hf)))))))]) (A := fun L => [PV x, .pointer (some ⟨(L0.b 0), 0, none⟩), .pointer (some ⟨(L0.b 1), 0, none⟩), .pointer (some ⟨(L1.b 6), 0, none⟩), .bool true, .pointer (some ⟨(L3.b 10), 0, none⟩), .pointer (some ⟨(L5.b 5), 0, none⟩), .int .i64 0, .tuple #[FV ((root x.norm)), .bool true], PV x, FV x.norm, .tuple #[FV ((root x.norm)), .bool true], FV ((root x.norm)), .bool true, .bool true, .bool false, undef, .tuple #[FV ((root (((x.c0 + (root x.norm)) * hf)))), .bool true], .pointer (some ⟨(L0.b 0), 0, none⟩), FV x.c0, FV ((root x.norm)), FV ((x.c0 + (root x.norm))), FV hf, FV (((x.c0 + (root x.norm)) * hf)), .tuple #[FV ((root (((x.c0 + (root x.norm)) * hf)))), .bool true], FV ((root (((x.c0 + (root x.norm)) * hf)))), .bool true, .bool true, .bool false, undef, undef, undef, undef, undef, undef, undef, undef, undef, undef, .tuple #[FV ((finv ((root (((x.c0 + (root x.norm)) * hf)))))), .int .i64 0], FV ((root (((x.c0 + (root x.norm)) * hf)))), .tuple #[FV ((finv ((root (((x.c0 + (root x.norm)) * hf)))))), .int .i64 0], FV ((finv ((root (((x.c0 + (root x.norm)) * hf)))))), .int .i64 0, FV ((root (((x.c0 + (root x.norm)) * hf)))), .pointer (some ⟨(L0.b 0), 6, none⟩), FV x.c1, FV hf, FV ((x.c1 * hf)), FV ((finv ((root (((x.c0 + (root x.norm)) * hf)))))), FV (((x.c1 * hf) * (finv ((root (((x.c0 + (root x.norm)) * hf))))))), PV (⟨(root (((x.c0 + (root x.norm)) * hf))), ((x.c1 * hf) * (finv ((root (((x.c0 + (root x.norm)) * hf))))))⟩)]) (H' := fun L => [((L0.b 0), PC x), ((L0.b 1), PC (⟨(root (((x.c0 + (root x.norm)) * hf))), ((x.c1 * hf) * (finv ((root (((x.c0 + (root x.norm)) * hf))))))⟩)), ((L1.b 6), FC ((root x.norm))), ((L3.b 10), FC ((root (((x.c0 + (root x.norm)) * hf))))), ((L5.b 5), FC ((finv ((root (((x.c0 + (root x.norm)) * hf)))))))]) (by kernel_rfl) rfl rfl rfl (fun L => by kernel_rfl) (fun L => by kernel_rfl) hp6 ⟨
    ob_load (b := (L3.b 10)) (off := 0) (cs := FC ((root (((x.c0 + (root x.norm)) * hf))))) (by kernel_rfl) (fun _ => rfl) rfl rfl (fun _ => by kernel_rfl) (fun _ _ hs => (seen_at (k := 3) hs rfl).cells) Tryd.underlying24 rfl (sizeFC _),
    ob_index (b := (L0.b 0)) (off := 0) (k := 1) (sz := 6) (n := 2) (fun _ => rfl) rfl rfl (fun _ => by kernel_rfl) (fun _ => by kernel_rfl) Tryd.underlying26 sizeF (by decide) rfl,
    ob_load (b := (L0.b 0)) (off := 6) (cs := FC x.c1) (by kernel_rfl) (fun _ => rfl) rfl rfl (fun _ => by kernel_rfl) (fun _ _ hs => partF2_1 (seen_at (k := 0) hs rfl)) Tryd.underlying24 rfl (sizeFC _),
    ob_load (b := 2) (off := 0) (cs := FC hf) (by kernel_rfl) (fun _ => rfl) rfl rfl (fun _ => by kernel_rfl) (fun _ w hs => hH w (K.stay hg hs.bel)) Tryd.underlying24 rfl (sizeFC _),
    ob_call (vs := #[FV x.c1, FV hf]) (by kernel_rfl) (by kernel_rfl) (fun _ => rfl) rfl rfl (fun _ => by kernel_rfl) (fun w hb _ => K.mul _ _ w (K.stay hg hb)),
    ob_load (b := (L5.b 5)) (off := 0) (cs := FC ((finv ((root (((x.c0 + (root x.norm)) * hf))))))) (by kernel_rfl) (fun _ => rfl) rfl rfl (fun _ => by kernel_rfl) (fun _ _ hs => (seen_at (k := 4) hs rfl).cells) Tryd.underlying24 rfl (sizeFC _),
    ob_call (vs := #[FV ((x.c1 * hf)), FV ((finv ((root (((x.c0 + (root x.norm)) * hf))))))]) (by kernel_rfl) (by kernel_rfl) (fun _ => rfl) rfl rfl (fun _ => by kernel_rfl) (fun w hb _ => K.mul _ _ w (K.stay hg hb)),
    ob_build (qs := #[(0, FV ((root (((x.c0 + (root x.norm)) * hf))))), (1, FV (((x.c1 * hf) * (finv ((root (((x.c0 + (root x.norm)) * hf))))))))]) (fun _ => rfl) rfl rfl (fun _ => by kernel_rfl) (buildP _ _),
    ob_store (old := PC 0) (fun _ => rfl) rfl rfl (fun _ => by kernel_rfl) (fun _ => by kernel_rfl) rfl (sizePC _) (PC_one _) (le_len (PC_len _) (PC_len _) (by decide)) (splice_all ((PC_len _).trans (PC_len _).symm)).symm,
    trivial⟩ (fun L6 w7 hp7 => ?_)
  refine k9 _ _ ?_
  refine wp_ret ?_
  exact bodyPost_ret (v := PV (⟨(root (((x.c0 + (root x.norm)) * hf))), ((x.c1 * hf) * (finv ((root (((x.c0 + (root x.norm)) * hf))))))⟩)) (res_c rfl (by kernel_rfl) (hp7.bound 1 rfl).2 Tryd.underlying26 rfl (sizePC _)) rfl ⟨rfl, hp7.bel⟩
set_option maxHeartbeats 4000000 in
theorem fp2cross2 {G : World → Prop} (K : FpK G) (x : F2) (w : World) (hg : G w) (hH : ∀ w, G w → w.rangeAt 2 0 (FC hf)) (hq : isq x.norm = true) (ht : isq ((x.c0 + (root x.norm)) * hf) = false) (hn : root ((x.c0 - (root x.norm)) * hf) ≠ 0) : Calls Tryd.prog 69 #[PV x] w (Ret (PV ⟨root ((x.c0 - (root x.norm)) * hf), x.c1 * hf * finv (root ((x.c0 - (root x.norm)) * hf))⟩) w) := by
  have hp0 := Heap.start w
  go_enter Tryd.func69, Tryd.ntmps69
  refine wp_seq_k (fun K1 k1 => ?_)
  refine goes (ks := [.alloc (PC x), .alloc (PC 0)]) (T := [0, 0]) (nt := 52) (nh := 0) (H := []) (A := fun L => [PV x, .pointer (some ⟨L.b 0, 0, none⟩), .pointer (some ⟨L.b 1, 0, none⟩), undef, undef, undef, undef, undef, undef, undef, undef, undef, undef, undef, undef, undef, undef, undef, undef, undef, undef, undef, undef, undef, undef, undef, undef, undef, undef, undef, undef, undef, undef, undef, undef, undef, undef, undef, undef, undef, undef, undef, undef, undef, undef, undef, undef, undef, undef, undef, undef, undef]) (H' := fun L => [(L.b 0, PC x), (L.b 1, PC 0)]) (by kernel_rfl) rfl rfl rfl (fun L => by kernel_rfl) (fun L => by kernel_rfl) hp0 ⟨
    ob_box (v := PV x) (fun _ => rfl) rfl rfl (fun _ => by kernel_rfl) rfl,
    ob_alloc (v := PV 0) (fun _ => rfl) rfl rfl zeroP rfl,
    trivial⟩ (fun L0 w1 hp1 => ?_)
  refine k1 _ _ ?_
  refine wp_seq_k (fun K2 k2 => ?_)
  refine goes (ks := [.det (PV x), .det (FV x.norm), .det (.tuple #[FV ((root x.norm)), .bool true]), .det (.tuple #[FV ((root x.norm)), .bool true]), .det (FV ((root x.norm))), .det (.bool true), .alloc (FC 0), .store (.new 6) 0 (FC ((root x.norm))) (FC ((root x.norm))), .det (.bool true)]) (T := [0, 1, 3, 7, 15, 15, 0, 95, 255]) (nt := 52) (nh := 2) (H := [((L0.b 0), PC x), ((L0.b 1), PC 0)]) (A := fun L => [PV x, .pointer (some ⟨(L0.b 0), 0, none⟩), .pointer (some ⟨(L0.b 1), 0, none⟩), .pointer (some ⟨L.b 6, 0, none⟩), .bool true, undef, undef, undef, .tuple #[FV ((root x.norm)), .bool true], PV x, FV x.norm, .tuple #[FV ((root x.norm)), .bool true], FV ((root x.norm)), .bool true, undef, undef, undef, undef, undef, undef, undef, undef, undef, undef, undef, undef, undef, undef, undef, undef, undef, undef, undef, undef, undef, undef, undef, undef, undef, undef, undef, undef, undef, undef, undef, undef, undef, undef, undef, undef, undef, undef]) (H' := fun L => [((L0.b 0), PC x), ((L0.b 1), PC 0), (L.b 6, FC ((root x.norm)))]) (by kernel_rfl) rfl rfl rfl (fun L => by kernel_rfl) (fun L => by kernel_rfl) hp1 ⟨
    ob_load (b := (L0.b 0)) (off := 0) (cs := PC x) (by kernel_rfl) (fun _ => rfl) rfl rfl (fun _ => by kernel_rfl) (fun _ _ hs => (seen_at (k := 0) hs rfl).cells) Tryd.underlying26 rfl (sizePC _),
    ob_call (vs := #[PV x]) (by kernel_rfl) (by kernel_rfl) (fun _ => rfl) rfl rfl (fun _ => by kernel_rfl) (fun w hb _ => fp2norm K _ w (K.stay hg hb)),
    ob_call (vs := #[FV x.norm]) (by kernel_rfl) (by kernel_rfl) (fun _ => rfl) rfl rfl (fun _ => by kernel_rfl) (fun w hb _ => by have h := K.sqrt x.norm w (K.stay hg hb); rw [hq] at h; exact h),
    ob_move (fun _ => rfl) rfl rfl (fun _ => by kernel_rfl),
    ob_extract (vs := #[FV ((root x.norm)), .bool true]) (fun _ => rfl) rfl rfl (fun _ => by kernel_rfl) rfl,
    ob_extract (vs := #[FV ((root x.norm)), .bool true]) (fun _ => rfl) rfl rfl (fun _ => by kernel_rfl) rfl,
    ob_alloc (v := FV 0) (fun _ => rfl) rfl rfl zeroF rfl,
    ob_store (old := FC 0) (fun _ => rfl) rfl rfl (fun _ => by kernel_rfl) (fun _ => by kernel_rfl) rfl (sizeFC _) (FC_one _) (le_len (FC_len _) (FC_len _) (by decide)) (splice_all ((FC_len _).trans (FC_len _).symm)).symm,
    ob_assign (fun _ => rfl) rfl rfl (fun _ => by kernel_rfl),
    trivial⟩ (fun L1 w2 hp2 => ?_)
  refine k2 _ _ ?_
  refine wp_seq_k (fun K3 k3 => ?_)
  refine wp_seq_k (fun K4 k4 => ?_)
  refine goes (ks := [.det (.bool true), .det (.bool false)]) (T := [0, 1]) (nt := 52) (nh := 3) (H := [((L0.b 0), PC x), ((L0.b 1), PC 0), ((L1.b 6), FC ((root x.norm)))]) (A := fun L => [PV x, .pointer (some ⟨(L0.b 0), 0, none⟩), .pointer (some ⟨(L0.b 1), 0, none⟩), .pointer (some ⟨(L1.b 6), 0, none⟩), .bool true, undef, undef, undef, .tuple #[FV ((root x.norm)), .bool true], PV x, FV x.norm, .tuple #[FV ((root x.norm)), .bool true], FV ((root x.norm)), .bool true, .bool true, .bool false, undef, undef, undef, undef, undef, undef, undef, undef, undef, undef, undef, undef, undef, undef, undef, undef, undef, undef, undef, undef, undef, undef, undef, undef, undef, undef, undef, undef, undef, undef, undef, undef, undef, undef, undef, undef]) (H' := fun L => [((L0.b 0), PC x), ((L0.b 1), PC 0), ((L1.b 6), FC ((root x.norm)))]) (by kernel_rfl) rfl rfl rfl (fun L => by kernel_rfl) (fun L => by kernel_rfl) hp2 ⟨
    ob_move (fun _ => rfl) rfl rfl (fun _ => by kernel_rfl),
    ob_not (b := true) (fun _ => rfl) rfl rfl (fun _ => by kernel_rfl),
    trivial⟩ (fun L2 w3 hp3 => ?_)
  refine k4 _ _ ?_
  refine wp_cond_false (by kernel_rfl) ?_
  refine skips ?_
  refine k3 _ _ ?_
  refine wp_seq_k (fun K5 k5 => ?_)
  refine draws (by kernel_rfl) (ks := [.det (.pointer (some ⟨(L0.b 0), 0, none⟩)), .det (FV x.c0), .det (FV ((root x.norm))), .det (FV ((x.c0 + (root x.norm)))), .det (FV hf), .det (FV (((x.c0 + (root x.norm)) * hf))), .det (.tuple #[FV ((root (((x.c0 + (root x.norm)) * hf)))), .bool false]), .det (.tuple #[FV ((root (((x.c0 + (root x.norm)) * hf)))), .bool false]), .det (FV ((root (((x.c0 + (root x.norm)) * hf))))), .det (.bool false), .alloc (FC 0), .store (.new 10) 0 (FC ((root (((x.c0 + (root x.norm)) * hf))))) (FC ((root (((x.c0 + (root x.norm)) * hf))))), .det (.bool false)]) (T := [0, 1, 0, 7, 0, 31, 63, 127, 255, 255, 0, 1535, 4095]) (nt := 52) (nh := 3) (H := [((L0.b 0), PC x), ((L0.b 1), PC 0), ((L1.b 6), FC ((root x.norm)))]) (A := fun L => [PV x, .pointer (some ⟨(L0.b 0), 0, none⟩), .pointer (some ⟨(L0.b 1), 0, none⟩), .pointer (some ⟨(L1.b 6), 0, none⟩), .bool false, .pointer (some ⟨L.b 10, 0, none⟩), undef, undef, .tuple #[FV ((root x.norm)), .bool true], PV x, FV x.norm, .tuple #[FV ((root x.norm)), .bool true], FV ((root x.norm)), .bool true, .bool true, .bool false, undef, .tuple #[FV ((root (((x.c0 + (root x.norm)) * hf)))), .bool false], .pointer (some ⟨(L0.b 0), 0, none⟩), FV x.c0, FV ((root x.norm)), FV ((x.c0 + (root x.norm))), FV hf, FV (((x.c0 + (root x.norm)) * hf)), .tuple #[FV ((root (((x.c0 + (root x.norm)) * hf)))), .bool false], FV ((root (((x.c0 + (root x.norm)) * hf)))), .bool false, undef, undef, undef, undef, undef, undef, undef, undef, undef, undef, undef, undef, undef, undef, undef, undef, undef, undef, undef, undef, undef, undef, undef, undef, undef]) (H' := fun L => [((L0.b 0), PC x), ((L0.b 1), PC 0), ((L1.b 6), FC ((root x.norm))), (L.b 10, FC ((root (((x.c0 + (root x.norm)) * hf)))))]) (by kernel_rfl) rfl rfl rfl (fun L => by kernel_rfl) (fun L => by kernel_rfl) hp3 ⟨
    ob_index (b := (L0.b 0)) (off := 0) (k := 0) (sz := 6) (n := 2) (fun _ => rfl) rfl rfl (fun _ => by kernel_rfl) (fun _ => by kernel_rfl) Tryd.underlying26 sizeF (by decide) rfl,
    ob_load (b := (L0.b 0)) (off := 0) (cs := FC x.c0) (by kernel_rfl) (fun _ => rfl) rfl rfl (fun _ => by kernel_rfl) (fun _ _ hs => partF2_0 (seen_at (k := 0) hs rfl)) Tryd.underlying24 rfl (sizeFC _),
    ob_load (b := (L1.b 6)) (off := 0) (cs := FC ((root x.norm))) (by kernel_rfl) (fun _ => rfl) rfl rfl (fun _ => by kernel_rfl) (fun _ _ hs => (seen_at (k := 2) hs rfl).cells) Tryd.underlying24 rfl (sizeFC _),
    ob_call (vs := #[FV x.c0, FV ((root x.norm))]) (by kernel_rfl) (by kernel_rfl) (fun _ => rfl) rfl rfl (fun _ => by kernel_rfl) (fun w hb _ => K.add _ _ w (K.stay hg hb)),
    ob_load (b := 2) (off := 0) (cs := FC hf) (by kernel_rfl) (fun _ => rfl) rfl rfl (fun _ => by kernel_rfl) (fun _ w hs => hH w (K.stay hg hs.bel)) Tryd.underlying24 rfl (sizeFC _),
    ob_call (vs := #[FV ((x.c0 + (root x.norm))), FV hf]) (by kernel_rfl) (by kernel_rfl) (fun _ => rfl) rfl rfl (fun _ => by kernel_rfl) (fun w hb _ => K.mul _ _ w (K.stay hg hb)),
    ob_call (vs := #[FV (((x.c0 + (root x.norm)) * hf))]) (by kernel_rfl) (by kernel_rfl) (fun _ => rfl) rfl rfl (fun _ => by kernel_rfl) (fun w hb _ => by have h := K.sqrt (((x.c0 + (root x.norm)) * hf)) w (K.stay hg hb); rw [ht] at h; exact h),
    ob_move (fun _ => rfl) rfl rfl (fun _ => by kernel_rfl),
    ob_extract (vs := #[FV ((root (((x.c0 + (root x.norm)) * hf)))), .bool false]) (fun _ => rfl) rfl rfl (fun _ => by kernel_rfl) rfl,
    ob_extract (vs := #[FV ((root (((x.c0 + (root x.norm)) * hf)))), .bool false]) (fun _ => rfl) rfl rfl (fun _ => by kernel_rfl) rfl,
    ob_alloc (v := FV 0) (fun _ => rfl) rfl rfl zeroF rfl,
    ob_store (old := FC 0) (fun _ => rfl) rfl rfl (fun _ => by kernel_rfl) (fun _ => by kernel_rfl) rfl (sizeFC _) (FC_one _) (le_len (FC_len _) (FC_len _) (by decide)) (splice_all ((FC_len _).trans (FC_len _).symm)).symm,
    ob_assign (fun _ => rfl) rfl rfl (fun _ => by kernel_rfl),
    trivial⟩ (fun L3 w4 hp4 => ?_)
  refine k5 _ _ ?_
  refine wp_seq_k (fun K6 k6 => ?_)
  refine wp_seq_k (fun K7 k7 => ?_)
  refine goes (ks := [.det (.bool false), .det (.bool true)]) (T := [0, 1]) (nt := 52) (nh := 4) (H := [((L0.b 0), PC x), ((L0.b 1), PC 0), ((L1.b 6), FC ((root x.norm))), ((L3.b 10), FC ((root (((x.c0 + (root x.norm)) * hf)))))]) (A := fun L => [PV x, .pointer (some ⟨(L0.b 0), 0, none⟩), .pointer (some ⟨(L0.b 1), 0, none⟩), .pointer (some ⟨(L1.b 6), 0, none⟩), .bool false, .pointer (some ⟨(L3.b 10), 0, none⟩), undef, undef, .tuple #[FV ((root x.norm)), .bool true], PV x, FV x.norm, .tuple #[FV ((root x.norm)), .bool true], FV ((root x.norm)), .bool true, .bool true, .bool false, undef, .tuple #[FV ((root (((x.c0 + (root x.norm)) * hf)))), .bool false], .pointer (some ⟨(L0.b 0), 0, none⟩), FV x.c0, FV ((root x.norm)), FV ((x.c0 + (root x.norm))), FV hf, FV (((x.c0 + (root x.norm)) * hf)), .tuple #[FV ((root (((x.c0 + (root x.norm)) * hf)))), .bool false], FV ((root (((x.c0 + (root x.norm)) * hf)))), .bool false, .bool false, .bool true, undef, undef, undef, undef, undef, undef, undef, undef, undef, undef, undef, undef, undef, undef, undef, undef, undef, undef, undef, undef, undef, undef, undef]) (H' := fun L => [((L0.b 0), PC x), ((L0.b 1), PC 0), ((L1.b 6), FC ((root x.norm))), ((L3.b 10), FC ((root (((x.c0 + (root x.norm)) * hf)))))]) (by kernel_rfl) rfl rfl rfl (fun L => by kernel_rfl) (fun L => by kernel_rfl) hp4 ⟨
    ob_move (fun _ => rfl) rfl rfl (fun _ => by kernel_rfl),
    ob_not (b := false) (fun _ => rfl) rfl rfl (fun _ => by kernel_rfl),
    trivial⟩ (fun L4 w5 hp5 => ?_)
  refine k7 _ _ ?_
  refine wp_cond_true (by kernel_rfl) ?_
  refine draws (by kernel_rfl) (ks := [.det (.pointer (some ⟨(L0.b 0), 0, none⟩)), .det (FV x.c0), .det (FV ((root x.norm))), .det (FV ((x.c0 - (root x.norm)))), .det (FV hf), .det (FV (((x.c0 - (root x.norm)) * hf))), .det (.tuple #[FV ((root (((x.c0 - (root x.norm)) * hf)))), .bool (isq (((x.c0 - (root x.norm)) * hf)))]), .det (.tuple #[FV ((root (((x.c0 - (root x.norm)) * hf)))), .bool (isq (((x.c0 - (root x.norm)) * hf)))]), .det (FV ((root (((x.c0 - (root x.norm)) * hf))))), .det (.bool (isq (((x.c0 - (root x.norm)) * hf)))), .store (.base 3) 0 (FC ((root (((x.c0 - (root x.norm)) * hf))))) (FC ((root (((x.c0 - (root x.norm)) * hf)))))]) (T := [0, 1, 0, 7, 0, 31, 63, 127, 255, 255, 511]) (nt := 52) (nh := 4) (H := [((L0.b 0), PC x), ((L0.b 1), PC 0), ((L1.b 6), FC ((root x.norm))), ((L3.b 10), FC ((root (((x.c0 + (root x.norm)) * hf)))))]) (A := fun L => [PV x, .pointer (some ⟨(L0.b 0), 0, none⟩), .pointer (some ⟨(L0.b 1), 0, none⟩), .pointer (some ⟨(L1.b 6), 0, none⟩), .bool false, .pointer (some ⟨(L3.b 10), 0, none⟩), undef, undef, .tuple #[FV ((root x.norm)), .bool true], PV x, FV x.norm, .tuple #[FV ((root x.norm)), .bool true], FV ((root x.norm)), .bool true, .bool true, .bool false, undef, .tuple #[FV ((root (((x.c0 + (root x.norm)) * hf)))), .bool false], .pointer (some ⟨(L0.b 0), 0, none⟩), FV x.c0, FV ((root x.norm)), FV ((x.c0 + (root x.norm))), FV hf, FV (((x.c0 + (root x.norm)) * hf)), .tuple #[FV ((root (((x.c0 + (root x.norm)) * hf)))), .bool false], FV ((root (((x.c0 + (root x.norm)) * hf)))), .bool false, .bool false, .bool true, .tuple #[FV ((root (((x.c0 - (root x.norm)) * hf)))), .bool (isq (((x.c0 - (root x.norm)) * hf)))], .pointer (some ⟨(L0.b 0), 0, none⟩), FV x.c0, FV ((root x.norm)), FV ((x.c0 - (root x.norm))), FV hf, FV (((x.c0 - (root x.norm)) * hf)), .tuple #[FV ((root (((x.c0 - (root x.norm)) * hf)))), .bool (isq (((x.c0 - (root x.norm)) * hf)))], FV ((root (((x.c0 - (root x.norm)) * hf)))), .bool (isq (((x.c0 - (root x.norm)) * hf))), undef, undef, undef, undef, undef, undef, undef, undef, undef, undef, undef, undef, undef]) (H' := fun L => [((L0.b 0), PC x), ((L0.b 1), PC 0), ((L1.b 6), FC ((root x.norm))), ((L3.b 10), FC ((root (((x.c0 - (root x.norm)) * hf)))))]) (by kernel_rfl) rfl rfl rfl (fun L => by kernel_rfl) (fun L => by kernel_rfl) hp5 ⟨
    ob_index (b := (L0.b 0)) (off := 0) (k := 0) (sz := 6) (n := 2) (fun _ => rfl) rfl rfl (fun _ => by kernel_rfl) (fun _ => by kernel_rfl) Tryd.underlying26 sizeF (by decide) rfl,
    ob_load (b := (L0.b 0)) (off := 0) (cs := FC x.c0) (by kernel_rfl) (fun _ => rfl) rfl rfl (fun _ => by kernel_rfl) (fun _ _ hs => partF2_0 (seen_at (k := 0) hs rfl)) Tryd.underlying24 rfl (sizeFC _),
    ob_load (b := (L1.b 6)) (off := 0) (cs := FC ((root x.norm))) (by kernel_rfl) (fun _ => rfl) rfl rfl (fun _ => by kernel_rfl) (fun _ _ hs => (seen_at (k := 2) hs rfl).cells) Tryd.underlying24 rfl (sizeFC _),
    ob_call (vs := #[FV x.c0, FV ((root x.norm))]) (by kernel_rfl) (by kernel_rfl) (fun _ => rfl) rfl rfl (fun _ => by kernel_rfl) (fun w hb _ => K.sub _ _ w (K.stay hg hb)),
    ob_load (b := 2) (off := 0) (cs := FC hf) (by kernel_rfl) (fun _ => rfl) rfl rfl (fun _ => by kernel_rfl) (fun _ w hs => hH w (K.stay hg hs.bel)) Tryd.underlying24 rfl (sizeFC _),
    ob_call (vs := #[FV ((x.c0 - (root x.norm))), FV hf]) (by kernel_rfl) (by kernel_rfl) (fun _ => rfl) rfl rfl (fun _ => by kernel_rfl) (fun w hb _ => K.mul _ _ w (K.stay hg hb)),
    ob_call (vs := #[FV (((x.c0 - (root x.norm)) * hf))]) (by kernel_rfl) (by kernel_rfl) (fun _ => rfl) rfl rfl (fun _ => by kernel_rfl) (fun w hb _ => K.sqrt _ w (K.stay hg hb)),
    ob_move (fun _ => rfl) rfl rfl (fun _ => by kernel_rfl),
    ob_extract (vs := #[FV ((root (((x.c0 - (root x.norm)) * hf)))), .bool (isq (((x.c0 - (root x.norm)) * hf)))]) (fun _ => rfl) rfl rfl (fun _ => by kernel_rfl) rfl,
    ob_extract (vs := #[FV ((root (((x.c0 - (root x.norm)) * hf)))), .bool (isq (((x.c0 - (root x.norm)) * hf)))]) (fun _ => rfl) rfl rfl (fun _ => by kernel_rfl) rfl,
    ob_store (old := FC ((root (((x.c0 + (root x.norm)) * hf))))) (fun _ => rfl) rfl rfl (fun _ => by kernel_rfl) (fun _ => by kernel_rfl) rfl (sizeFC _) (FC_one _) (le_len (FC_len _) (FC_len _) (by decide)) (splice_all ((FC_len _).trans (FC_len _).symm)).symm,
    trivial⟩ (fun L5 w6 hp6 => ?_)
  refine k6 _ _ ?_
  refine wp_seq_k (fun K8 k8 => ?_)
  refine goes (ks := [.det (FV ((root (((x.c0 - (root x.norm)) * hf))))), .det (.tuple #[FV ((finv ((root (((x.c0 - (root x.norm)) * hf)))))), .int .i64 0]), .det (.tuple #[FV ((finv ((root (((x.c0 - (root x.norm)) * hf)))))), .int .i64 0]), .det (FV ((finv ((root (((x.c0 - (root x.norm)) * hf))))))), .det (.int .i64 0), .alloc (FC 0), .store (.new 5) 0 (FC ((finv ((root (((x.c0 - (root x.norm)) * hf))))))) (FC ((finv ((root (((x.c0 - (root x.norm)) * hf))))))), .det (.int .i64 0)]) (T := [0, 1, 3, 7, 7, 0, 47, 127]) (nt := 52) (nh := 4) (H := [((L0.b 0), PC x), ((L0.b 1), PC 0), ((L1.b 6), FC ((root x.norm))), ((L3.b 10), FC ((root (((x.c0 - (root x.norm)) * hf)))))]) (A := fun L => [PV x, .pointer (some ⟨(L0.b 0), 0, none⟩), .pointer (some ⟨(L0.b 1), 0, none⟩), .pointer (some ⟨(L1.b 6), 0, none⟩), .bool false, .pointer (some ⟨(L3.b 10), 0, none⟩), .pointer (some ⟨L.b 5, 0, none⟩), .int .i64 0, .tuple #[FV ((root x.norm)), .bool true], PV x, FV x.norm, .tuple #[FV ((root x.norm)), .bool true], FV ((root x.norm)), .bool true, .bool true, .bool false, undef, .tuple #[FV ((root (((x.c0 + (root x.norm)) * hf)))), .bool false], .pointer (some ⟨(L0.b 0), 0, none⟩), FV x.c0, FV ((root x.norm)), FV ((x.c0 + (root x.norm))), FV hf, FV (((x.c0 + (root x.norm)) * hf)), .tuple #[FV ((root (((x.c0 + (root x.norm)) * hf)))), .bool false], FV ((root (((x.c0 + (root x.norm)) * hf)))), .bool false, .bool false, .bool true, .tuple #[FV ((root (((x.c0 - (root x.norm)) * hf)))), .bool (isq (((x.c0 - (root x.norm)) * hf)))], .pointer (some ⟨(L0.b 0), 0, none⟩), FV x.c0, FV ((root x.norm)), FV ((x.c0 - (root x.norm))), FV hf, FV (((x.c0 - (root x.norm)) * hf)), .tuple #[FV ((root (((x.c0 - (root x.norm)) * hf)))), .bool (isq (((x.c0 - (root x.norm)) * hf)))], FV ((root (((x.c0 - (root x.norm)) * hf)))), .bool (isq (((x.c0 - (root x.norm)) * hf))), .tuple #[FV ((finv ((root (((x.c0 - (root x.norm)) * hf)))))), .int .i64 0], FV ((root (((x.c0 - (root x.norm)) * hf)))), .tuple #[FV ((finv ((root (((x.c0 - (root x.norm)) * hf)))))), .int .i64 0], FV ((finv ((root (((x.c0 - (root x.norm)) * hf)))))), .int .i64 0, undef, undef, undef, undef, undef, undef, undef, undef]) (H' := fun L => [((L0.b 0), PC x), ((L0.b 1), PC 0), ((L1.b 6), FC ((root x.norm))), ((L3.b 10), FC ((root (((x.c0 - (root x.norm)) * hf))))), (L.b 5, FC ((finv ((root (((x.c0 - (root x.norm)) * hf)))))))]) (by kernel_rfl) rfl rfl rfl (fun L => by kernel_rfl) (fun L => by kernel_rfl) hp6 ⟨
    ob_load (b := (L3.b 10)) (off := 0) (cs := FC ((root (((x.c0 - (root x.norm)) * hf))))) (by kernel_rfl) (fun _ => rfl) rfl rfl (fun _ => by kernel_rfl) (fun _ _ hs => (seen_at (k := 3) hs rfl).cells) Tryd.underlying24 rfl (sizeFC _),
    ob_call (vs := #[FV ((root (((x.c0 - (root x.norm)) * hf))))]) (by kernel_rfl) (by kernel_rfl) (fun _ => rfl) rfl rfl (fun _ => by kernel_rfl) (fun w hb _ => K.inv _ w (K.stay hg hb) hn),
    ob_move (fun _ => rfl) rfl rfl (fun _ => by kernel_rfl),
    ob_extract (vs := #[FV ((finv ((root (((x.c0 - (root x.norm)) * hf)))))), .int .i64 0]) (fun _ => rfl) rfl rfl (fun _ => by kernel_rfl) rfl,
    ob_extract (vs := #[FV ((finv ((root (((x.c0 - (root x.norm)) * hf)))))), .int .i64 0]) (fun _ => rfl) rfl rfl (fun _ => by kernel_rfl) rfl,
    ob_alloc (v := FV 0) (fun _ => rfl) rfl rfl zeroF rfl,
    ob_store (old := FC 0) (fun _ => rfl) rfl rfl (fun _ => by kernel_rfl) (fun _ => by kernel_rfl) rfl (sizeFC _) (FC_one _) (le_len (FC_len _) (FC_len _) (by decide)) (splice_all ((FC_len _).trans (FC_len _).symm)).symm,
    ob_assign (fun _ => rfl) rfl rfl (fun _ => by kernel_rfl),
    trivial⟩ (fun L6 w7 hp7 => ?_)
  refine k8 _ _ ?_
  refine wp_seq_k (fun K9 k9 => ?_)
  refine draws (by kernel_rfl) (ks := [.det (FV ((root (((x.c0 - (root x.norm)) * hf))))), .det (.pointer (some ⟨(L0.b 0), 6, none⟩)), .det (FV x.c1), .det (FV hf), .det (FV ((x.c1 * hf))), .det (FV ((finv ((root (((x.c0 - (root x.norm)) * hf))))))), .det (FV (((x.c1 * hf) * (finv ((root (((x.c0 - (root x.norm)) * hf)))))))), .det (PV (⟨(root (((x.c0 - (root x.norm)) * hf))), ((x.c1 * hf) * (finv ((root (((x.c0 - (root x.norm)) * hf))))))⟩)), .store (.base 1) 0 (PC (⟨(root (((x.c0 - (root x.norm)) * hf))), ((x.c1 * hf) * (finv ((root (((x.c0 - (root x.norm)) * hf))))))⟩)) (PC (⟨(root (((x.c0 - (root x.norm)) * hf))), ((x.c1 * hf) * (finv ((root (((x.c0 - (root x.norm)) * hf))))))⟩))]) (T := [0, 0, 2, 0, 14, 0, 62, 127, 255]) (nt := 52) (nh := 5) (H := [((L0.b 0), PC x), ((L0.b 1), PC 0), ((L1.b 6), FC ((root x.norm))), ((L3.b 10), FC ((root (((x.c0 - (root x.norm)) * hf))))), ((L6.b 5), FC ((finv ((root (((x.c0 - (root x.norm)) * hf)))))))]) (A := fun L => [PV x, .pointer (some ⟨(L0.b 0), 0, none⟩), .pointer (some ⟨(L0.b 1), 0, none⟩), .pointer (some ⟨(L1.b 6), 0, none⟩), .bool false, .pointer (some ⟨(L3.b 10), 0, none⟩), .pointer (some ⟨(L6.b 5), 0, none⟩), .int .i64 0, .tuple #[FV ((root x.norm)), .bool true], PV x, FV x.norm, .tuple #[FV ((root x.norm)), .bool true], FV ((root x.norm)), .bool true, .bool true, .bool false, undef, .tuple #[FV ((root (((x.c0 + (root x.norm)) * hf)))), .bool false], .pointer (some ⟨(L0.b 0), 0, none⟩), FV x.c0, FV ((root x.norm)), FV ((x.c0 + (root x.norm))), FV hf, FV (((x.c0 + (root x.norm)) * hf)), .tuple #[FV ((root (((x.c0 + (root x.norm)) * hf)))), .bool false], FV ((root (((x.c0 + (root x.norm)) * hf)))), .bool false, .bool false, .bool true, .tuple #[FV ((root (((x.c0 - (root x.norm)) * hf)))), .bool (isq (((x.c0 - (root x.norm)) * hf)))], .pointer (some ⟨(L0.b 0), 0, none⟩), FV x.c0, FV ((root x.norm)), FV ((x.c0 - (root x.norm))), FV hf, FV (((x.c0 - (root x.norm)) * hf)), .tuple #[FV ((root (((x.c0 - (root x.norm)) * hf)))), .bool (isq (((x.c0 - (root x.norm)) * hf)))], FV ((root (((x.c0 - (root x.norm)) * hf)))), .bool (isq (((x.c0 - (root x.norm)) * hf))), .tuple #[FV ((finv ((root (((x.c0 - (root x.norm)) * hf)))))), .int .i64 0], FV ((root (((x.c0 - (root x.norm)) * hf)))), .tuple #[FV ((finv ((root (((x.c0 - (root x.norm)) * hf)))))), .int .i64 0], FV ((finv ((root (((x.c0 - (root x.norm)) * hf)))))), .int .i64 0, FV ((root (((x.c0 - (root x.norm)) * hf)))), .pointer (some ⟨(L0.b 0), 6, none⟩), FV x.c1, FV hf, FV ((x.c1 * hf)), FV ((finv ((root (((x.c0 - (root x.norm)) * hf)))))), FV (((x.c1 * hf) * (finv ((root (((x.c0 - (root x.norm)) * hf))))))), PV (⟨(root (((x.c0 - (root x.norm)) * hf))), ((x.c1 * hf) * (finv ((root (((x.c0 - (root x.norm)) * hf))))))⟩)]) (H' := fun L => [((L0.b 0), PC x), ((L0.b 1), PC (⟨(root (((x.c0 - (root x.norm)) * hf))), ((x.c1 * hf) * (finv ((root (((x.c0 - (root x.norm)) * hf))))))⟩)), ((L1.b 6), FC ((root x.norm))), ((L3.b 10), FC ((root (((x.c0 - (root x.norm)) * hf))))), ((L6.b 5), FC ((finv ((root (((x.c0 - (root x.norm)) * hf)))))))]) (by kernel_rfl) rfl rfl rfl (fun L => by kernel_rfl) (fun L => by kernel_rfl) hp7 ⟨
    ob_load (b := (L3.b 10)) (off := 0) (cs := FC ((root (((x.c0 - (root x.norm)) * hf))))) (by kernel_rfl) (fun _ => rfl) rfl rfl (fun _ => by kernel_rfl) (fun _ _ hs => (seen_at (k := 3) hs rfl).cells) Tryd.underlying24 rfl (sizeFC _),
    ob_index (b := (L0.b 0)) (off := 0) (k := 1) (sz := 6) (n := 2) (fun _ => rfl) rfl rfl (fun _ => by kernel_rfl) (fun _ => by kernel_rfl) Tryd.underlying26 sizeF (by decide) rfl,
    ob_load (b := (L0.b 0)) (off := 6) (cs := FC x.c1) (by kernel_rfl) (fun _ => rfl) rfl rfl (fun _ => by kernel_rfl) (fun _ _ hs => partF2_1 (seen_at (k := 0) hs rfl)) Tryd.underlying24 rfl (sizeFC _),
    ob_load (b := 2) (off := 0) (cs := FC hf) (by kernel_rfl) (fun _ => rfl) rfl rfl (fun _ => by kernel_rfl) (fun _ w hs => hH w (K.stay hg hs.bel)) Tryd.underlying24 rfl (sizeFC _),
    ob_call (vs := #[FV x.c1, FV hf]) (by kernel_rfl) (by kernel_rfl) (fun _ => rfl) rfl rfl (fun _ => by kernel_rfl) (fun w hb _ => K.mul _ _ w (K.stay hg hb)),
    ob_load (b := (L6.b 5)) (off := 0) (cs := FC ((finv ((root (((x.c0 - (root x.norm)) * hf))))))) (by kernel_rfl) (fun _ => rfl) rfl rfl (fun _ => by kernel_rfl) (fun _ _ hs => (seen_at (k := 4) hs rfl).cells) Tryd.underlying24 rfl (sizeFC _),
    ob_call (vs := #[FV ((x.c1 * hf)), FV ((finv ((root (((x.c0 - (root x.norm)) * hf))))))]) (by kernel_rfl) (by kernel_rfl) (fun _ => rfl) rfl rfl (fun _ => by kernel_rfl) (fun w hb _ => K.mul _ _ w (K.stay hg hb)),
    ob_build (qs := #[(0, FV ((root (((x.c0 - (root x.norm)) * hf))))), (1, FV (((x.c1 * hf) * (finv ((root (((x.c0 - (root x.norm)) * hf))))))))]) (fun _ => rfl) rfl rfl (fun _ => by kernel_rfl) (buildP _ _),
    ob_store (old := PC 0) (fun _ => rfl) rfl rfl (fun _ => by kernel_rfl) (fun _ => by kernel_rfl) rfl (sizePC _) (PC_one _) (le_len (PC_len _) (PC_len _) (by decide)) (splice_all ((PC_len _).trans (PC_len _).symm)).symm,
    trivial⟩ (fun L7 w8 hp8 => ?_)
  refine k9 _ _ ?_
  refine wp_ret ?_
  exact bodyPost_ret (v := PV (⟨(root (((x.c0 - (root x.norm)) * hf))), ((x.c1 * hf) * (finv ((root (((x.c0 - (root x.norm)) * hf))))))⟩)) (res_c rfl (by kernel_rfl) (hp8.bound 1 rfl).2 Tryd.underlying26 rfl (sizePC _)) rfl ⟨rfl, hp8.bel⟩
end Go.Proofs.YtgoghcmnnhglhaaDoor.fpn

/- Package fp2: the root that is told. -/
namespace Go.Proofs.YtgoghcmnnhglhaaDoor.fpn
open Go.RowKit Pl
set_option linter.unusedVariables false
set_option linter.unusedSimpArgs false
set_option maxRecDepth 4000

/-- What anyRoot tells. -/
noncomputable def any2 (x : F2) : F2 :=
  if x.c1 = 0 then (if isq x.c0 = true then ⟨root x.c0, 0⟩ else ⟨0, root (-x.c0)⟩)
  else if isq x.norm = true then (if isq ((x.c0 + root x.norm) * hf) = true then ⟨root ((x.c0 + root x.norm) * hf), x.c1 * hf * finv (root ((x.c0 + root x.norm) * hf))⟩ else ⟨root ((x.c0 - root x.norm) * hf), x.c1 * hf * finv (root ((x.c0 - root x.norm) * hf))⟩) else 0

theorem hf_sum (c : F) : c * hf + c * hf = c := by
  have h : c * hf + c * hf = c * (hf + hf) := by grind
  rw [h, hf_two]; grind

theorem mz (z a : F) (hz : z = 0) : a * z + z * a = z := by grind
theorem mz' (z a : F) (hz : z = 0) : z * a + a * z = z := by grind
theorem fadd_comm (a b : F) : a + b = b + a := by grind
theorem fmul_comm (a b : F) : a * b = b * a := by grind
theorem any2_cross {x : F2} (h1 : x.c1 ≠ 0) (hq : isq x.norm = true) : ((x.c0 + root x.norm) * hf) ≠ 0 ∧ ((x.c0 - root x.norm) * hf) ≠ 0 ∧ (isq ((x.c0 + root x.norm) * hf) = true → isq ((x.c0 - root x.norm) * hf) = false) ∧ (isq ((x.c0 + root x.norm) * hf) = false → isq ((x.c0 - root x.norm) * hf) = true) ∧ (((x.c0 + root x.norm) * hf) + ((x.c0 - root x.norm) * hf) = x.c0) ∧ (4 * (((x.c0 + root x.norm) * hf) * ((x.c0 - root x.norm) * hf)) = -(x.c1 * x.c1)) :=
  F2.cross h1 (root_sq hq) (hf_sum _) (hf_sum _)

/-- .. is a root, where there is one. -/
theorem any2_sq {x r : F2} (h : r * r = x) : any2 x * any2 x = x := by
  unfold any2
  by_cases h1 : x.c1 = 0
  · rw [if_pos h1]
    by_cases hq : isq x.c0 = true
    · rw [if_pos hq]
      have e := root_sq hq
      refine F2.ext' ?_ ?_
      · show root x.c0 * root x.c0 - 0 * 0 = x.c0
        rw [e]; grind
      · show root x.c0 * 0 + 0 * root x.c0 = x.c1
        rw [h1]; exact mz 0 _ rfl
    · rw [if_neg hq]
      have e := root_sq (isq_neg (show isq x.c0 = false by simpa using hq))
      refine F2.ext' ?_ ?_
      · show 0 * 0 - root (-x.c0) * root (-x.c0) = x.c0
        rw [e]; grind
      · show 0 * root (-x.c0) + root (-x.c0) * 0 = x.c1
        rw [h1]; exact mz' 0 _ rfl
  · have hq := F2.norm_sq h
    obtain ⟨k0, k1, k2, k3, k4, k5⟩ := any2_cross h1 hq
    rw [if_neg h1, if_pos hq]
    by_cases ht : isq ((x.c0 + root x.norm) * hf) = true
    · rw [if_pos ht]
      exact F2.cross_root hf_two k4 k5 (root_sq ht) (finv_mul (root_ne ht k0))
    · rw [if_neg ht]
      have ht' := k3 (by simpa using ht)
      exact F2.cross_root hf_two ((fadd_comm _ _).trans k4) (by rw [fmul_comm ((x.c0 - root x.norm) * hf) ((x.c0 + root x.norm) * hf)]; exact k5) (root_sq ht') (finv_mul (root_ne ht' k1))

set_option maxHeartbeats 4000000 in
theorem fp2any1 {G : World → Prop} (K : FpK G) (x : F2) (w : World) (hg : G w) (h1 : x.c1 = 0) (hq : isq x.c0 = true) : Calls Tryd.prog 45 #[PV x] w (Ret (PV (any2 x)) w) := by
  have hp0 := Heap.start w
  go_enter Tryd.func45, Tryd.ntmps45
  refine wp_seq_k (fun K1 k1 => ?_)
  refine goes (ks := [.alloc (PC x), .alloc (PC 0)]) (T := [0, 0]) (nt := 12) (nh := 0) (H := []) (A := fun L => [PV x, .pointer (some ⟨L.b 0, 0, none⟩), .pointer (some ⟨L.b 1, 0, none⟩), undef, undef, undef, undef, undef, undef, undef, undef, undef]) (H' := fun L => [(L.b 0, PC x), (L.b 1, PC 0)]) (by kernel_rfl) rfl rfl rfl (fun L => by kernel_rfl) (fun L => by kernel_rfl) hp0 ⟨
    ob_box (v := PV x) (fun _ => rfl) rfl rfl (fun _ => by kernel_rfl) rfl,
    ob_alloc (v := PV 0) (fun _ => rfl) rfl rfl zeroP rfl,
    trivial⟩ (fun L0 w1 hp1 => ?_)
  refine k1 _ _ ?_
  refine wp_seq_k (fun K2 k2 => ?_)
  refine wp_seq_k (fun K3 k3 => ?_)
  refine goes (ks := [.det (.pointer (some ⟨(L0.b 0), 6, none⟩)), .det (FV x.c1), .det (FV 0), .det (.bool true)]) (T := [0, 1, 0, 7]) (nt := 12) (nh := 2) (H := [((L0.b 0), PC x), ((L0.b 1), PC 0)]) (A := fun L => [PV x, .pointer (some ⟨(L0.b 0), 0, none⟩), .pointer (some ⟨(L0.b 1), 0, none⟩), .pointer (some ⟨(L0.b 0), 6, none⟩), FV x.c1, FV 0, .bool true, undef, undef, undef, undef, undef]) (H' := fun L => [((L0.b 0), PC x), ((L0.b 1), PC 0)]) (by kernel_rfl) rfl rfl rfl (fun L => by kernel_rfl) (fun L => by kernel_rfl) hp1 ⟨
    ob_index (b := (L0.b 0)) (off := 0) (k := 1) (sz := 6) (n := 2) (fun _ => rfl) rfl rfl (fun _ => by kernel_rfl) (fun _ => by kernel_rfl) Tryd.underlying26 sizeF (by decide) rfl,
    ob_load (b := (L0.b 0)) (off := 6) (cs := FC x.c1) (by kernel_rfl) (fun _ => rfl) rfl rfl (fun _ => by kernel_rfl) (fun _ _ hs => partF2_1 (seen_at (k := 0) hs rfl)) Tryd.underlying24 rfl (sizeFC _),
    ob_build (qs := #[]) (fun _ => rfl) rfl rfl (fun _ => by kernel_rfl) buildF0,
    ob_eq (u := FV x.c1) (v := FV 0) (fun _ => rfl) rfl rfl (fun _ => by kernel_rfl) (fun _ => by kernel_rfl) (fun w => guardF _ _ _ _ _ w) (fun w => (eqlF _ _ w).trans (by rw [decide_eq_true (h1)]; try rfl)),
    trivial⟩ (fun L1 w2 hp2 => ?_)
  refine k3 _ _ ?_
  refine wp_cond_true (by kernel_rfl) ?_
  refine wp_seq_k (fun K4 k4 => ?_)
  refine goes (ks := [.det (.pointer (some ⟨(L0.b 0), 0, none⟩)), .det (FV x.c0), .det (PV (⟨root x.c0, 0⟩)), .store (.base 1) 0 (PC (⟨root x.c0, 0⟩)) (PC (⟨root x.c0, 0⟩))]) (T := [0, 1, 3, 7]) (nt := 12) (nh := 2) (H := [((L0.b 0), PC x), ((L0.b 1), PC 0)]) (A := fun L => [PV x, .pointer (some ⟨(L0.b 0), 0, none⟩), .pointer (some ⟨(L0.b 1), 0, none⟩), .pointer (some ⟨(L0.b 0), 6, none⟩), FV x.c1, FV 0, .bool true, .pointer (some ⟨(L0.b 0), 0, none⟩), FV x.c0, PV (⟨root x.c0, 0⟩), undef, undef]) (H' := fun L => [((L0.b 0), PC x), ((L0.b 1), PC (⟨root x.c0, 0⟩))]) (by kernel_rfl) rfl rfl rfl (fun L => by kernel_rfl) (fun L => by kernel_rfl) hp2 ⟨
    ob_index (b := (L0.b 0)) (off := 0) (k := 0) (sz := 6) (n := 2) (fun _ => rfl) rfl rfl (fun _ => by kernel_rfl) (fun _ => by kernel_rfl) Tryd.underlying26 sizeF (by decide) rfl,
    ob_load (b := (L0.b 0)) (off := 0) (cs := FC x.c0) (by kernel_rfl) (fun _ => rfl) rfl rfl (fun _ => by kernel_rfl) (fun _ _ hs => partF2_0 (seen_at (k := 0) hs rfl)) Tryd.underlying24 rfl (sizeFC _),
    ob_call (vs := #[FV x.c0]) (by kernel_rfl) (by kernel_rfl) (fun _ => rfl) rfl rfl (fun _ => by kernel_rfl) (fun w hb _ => fp2flat1 K _ w (K.stay hg hb) hq),
    ob_store (old := PC 0) (fun _ => rfl) rfl rfl (fun _ => by kernel_rfl) (fun _ => by kernel_rfl) rfl (sizePC _) (PC_one _) (le_len (PC_len _) (PC_len _) (by decide)) (splice_all ((PC_len _).trans (PC_len _).symm)).symm,
    trivial⟩ (fun L2 w3 hp3 => ?_)
  refine k4 _ _ ?_
  refine wp_ret ?_
  exact bodyPost_ret (v := PV (⟨root x.c0, 0⟩)) (res_c rfl (by kernel_rfl) (hp3.bound 1 rfl).2 Tryd.underlying26 rfl (sizePC _)) rfl ⟨congrArg (fun z => Ending.returned (PV z)) (by unfold any2; rw [if_pos h1, if_pos hq]), hp3.bel⟩
set_option maxHeartbeats 4000000 in
theorem fp2any2 {G : World → Prop} (K : FpK G) (x : F2) (w : World) (hg : G w) (h1 : x.c1 = 0) (hq : isq x.c0 = false) : Calls Tryd.prog 45 #[PV x] w (Ret (PV (any2 x)) w) := by
  have hp0 := Heap.start w
  go_enter Tryd.func45, Tryd.ntmps45
  refine wp_seq_k (fun K1 k1 => ?_)
  refine goes (ks := [.alloc (PC x), .alloc (PC 0)]) (T := [0, 0]) (nt := 12) (nh := 0) (H := []) (A := fun L => [PV x, .pointer (some ⟨L.b 0, 0, none⟩), .pointer (some ⟨L.b 1, 0, none⟩), undef, undef, undef, undef, undef, undef, undef, undef, undef]) (H' := fun L => [(L.b 0, PC x), (L.b 1, PC 0)]) (by kernel_rfl) rfl rfl rfl (fun L => by kernel_rfl) (fun L => by kernel_rfl) hp0 ⟨
    ob_box (v := PV x) (fun _ => rfl) rfl rfl (fun _ => by kernel_rfl) rfl,
    ob_alloc (v := PV 0) (fun _ => rfl) rfl rfl zeroP rfl,
    trivial⟩ (fun L0 w1 hp1 => ?_)
  refine k1 _ _ ?_
  refine wp_seq_k (fun K2 k2 => ?_)
  refine wp_seq_k (fun K3 k3 => ?_)
  refine goes (ks := [.det (.pointer (some ⟨(L0.b 0), 6, none⟩)), .det (FV x.c1), .det (FV 0), .det (.bool true)]) (T := [0, 1, 0, 7]) (nt := 12) (nh := 2) (H := [((L0.b 0), PC x), ((L0.b 1), PC 0)]) (A := fun L => [PV x, .pointer (some ⟨(L0.b 0), 0, none⟩), .pointer (some ⟨(L0.b 1), 0, none⟩), .pointer (some ⟨(L0.b 0), 6, none⟩), FV x.c1, FV 0, .bool true, undef, undef, undef, undef, undef]) (H' := fun L => [((L0.b 0), PC x), ((L0.b 1), PC 0)]) (by kernel_rfl) rfl rfl rfl (fun L => by kernel_rfl) (fun L => by kernel_rfl) hp1 ⟨
    ob_index (b := (L0.b 0)) (off := 0) (k := 1) (sz := 6) (n := 2) (fun _ => rfl) rfl rfl (fun _ => by kernel_rfl) (fun _ => by kernel_rfl) Tryd.underlying26 sizeF (by decide) rfl,
    ob_load (b := (L0.b 0)) (off := 6) (cs := FC x.c1) (by kernel_rfl) (fun _ => rfl) rfl rfl (fun _ => by kernel_rfl) (fun _ _ hs => partF2_1 (seen_at (k := 0) hs rfl)) Tryd.underlying24 rfl (sizeFC _),
    ob_build (qs := #[]) (fun _ => rfl) rfl rfl (fun _ => by kernel_rfl) buildF0,
    ob_eq (u := FV x.c1) (v := FV 0) (fun _ => rfl) rfl rfl (fun _ => by kernel_rfl) (fun _ => by kernel_rfl) (fun w => guardF _ _ _ _ _ w) (fun w => (eqlF _ _ w).trans (by rw [decide_eq_true (h1)]; try rfl)),
    trivial⟩ (fun L1 w2 hp2 => ?_)
  refine k3 _ _ ?_
  refine wp_cond_true (by kernel_rfl) ?_
  refine wp_seq_k (fun K4 k4 => ?_)
  refine goes (ks := [.det (.pointer (some ⟨(L0.b 0), 0, none⟩)), .det (FV x.c0), .det (PV (⟨0, root (-x.c0)⟩)), .store (.base 1) 0 (PC (⟨0, root (-x.c0)⟩)) (PC (⟨0, root (-x.c0)⟩))]) (T := [0, 1, 3, 7]) (nt := 12) (nh := 2) (H := [((L0.b 0), PC x), ((L0.b 1), PC 0)]) (A := fun L => [PV x, .pointer (some ⟨(L0.b 0), 0, none⟩), .pointer (some ⟨(L0.b 1), 0, none⟩), .pointer (some ⟨(L0.b 0), 6, none⟩), FV x.c1, FV 0, .bool true, .pointer (some ⟨(L0.b 0), 0, none⟩), FV x.c0, PV (⟨0, root (-x.c0)⟩), undef, undef]) (H' := fun L => [((L0.b 0), PC x), ((L0.b 1), PC (⟨0, root (-x.c0)⟩))]) (by kernel_rfl) rfl rfl rfl (fun L => by kernel_rfl) (fun L => by kernel_rfl) hp2 ⟨
    ob_index (b := (L0.b 0)) (off := 0) (k := 0) (sz := 6) (n := 2) (fun _ => rfl) rfl rfl (fun _ => by kernel_rfl) (fun _ => by kernel_rfl) Tryd.underlying26 sizeF (by decide) rfl,
    ob_load (b := (L0.b 0)) (off := 0) (cs := FC x.c0) (by kernel_rfl) (fun _ => rfl) rfl rfl (fun _ => by kernel_rfl) (fun _ _ hs => partF2_0 (seen_at (k := 0) hs rfl)) Tryd.underlying24 rfl (sizeFC _),
    ob_call (vs := #[FV x.c0]) (by kernel_rfl) (by kernel_rfl) (fun _ => rfl) rfl rfl (fun _ => by kernel_rfl) (fun w hb _ => fp2flat2 K _ w (K.stay hg hb) hq),
    ob_store (old := PC 0) (fun _ => rfl) rfl rfl (fun _ => by kernel_rfl) (fun _ => by kernel_rfl) rfl (sizePC _) (PC_one _) (le_len (PC_len _) (PC_len _) (by decide)) (splice_all ((PC_len _).trans (PC_len _).symm)).symm,
    trivial⟩ (fun L2 w3 hp3 => ?_)
  refine k4 _ _ ?_
  refine wp_ret ?_
  exact bodyPost_ret (v := PV (⟨0, root (-x.c0)⟩)) (res_c rfl (by kernel_rfl) (hp3.bound 1 rfl).2 Tryd.underlying26 rfl (sizePC _)) rfl ⟨congrArg (fun z => Ending.returned (PV z)) (by unfold any2; rw [if_pos h1, if_neg (by rw [hq]; simp)]), hp3.bel⟩
set_option maxHeartbeats 4000000 in
theorem fp2any3 {G : World → Prop} (K : FpK G) (x r : F2) (w : World) (hg : G w) (h1 : x.c1 ≠ 0) (hr : ∀ w, G w → Calls Tryd.prog 69 #[PV x] w (Ret (PV r) w)) (he : r = any2 x) : Calls Tryd.prog 45 #[PV x] w (Ret (PV (any2 x)) w) := by
  have hp0 := Heap.start w
  go_enter Tryd.func45, Tryd.ntmps45
  refine wp_seq_k (fun K1 k1 => ?_)
  refine goes (ks := [.alloc (PC x), .alloc (PC 0)]) (T := [0, 0]) (nt := 12) (nh := 0) (H := []) (A := fun L => [PV x, .pointer (some ⟨L.b 0, 0, none⟩), .pointer (some ⟨L.b 1, 0, none⟩), undef, undef, undef, undef, undef, undef, undef, undef, undef]) (H' := fun L => [(L.b 0, PC x), (L.b 1, PC 0)]) (by kernel_rfl) rfl rfl rfl (fun L => by kernel_rfl) (fun L => by kernel_rfl) hp0 ⟨
    ob_box (v := PV x) (fun _ => rfl) rfl rfl (fun _ => by kernel_rfl) rfl,
    ob_alloc (v := PV 0) (fun _ => rfl) rfl rfl zeroP rfl,
    trivial⟩ (fun L0 w1 hp1 => ?_)
  refine k1 _ _ ?_
  refine wp_seq_k (fun K2 k2 => ?_)
  refine wp_seq_k (fun K3 k3 => ?_)
  refine goes (ks := [.det (.pointer (some ⟨(L0.b 0), 6, none⟩)), .det (FV x.c1), .det (FV 0), .det (.bool false)]) (T := [0, 1, 0, 7]) (nt := 12) (nh := 2) (H := [((L0.b 0), PC x), ((L0.b 1), PC 0)]) (A := fun L => [PV x, .pointer (some ⟨(L0.b 0), 0, none⟩), .pointer (some ⟨(L0.b 1), 0, none⟩), .pointer (some ⟨(L0.b 0), 6, none⟩), FV x.c1, FV 0, .bool false, undef, undef, undef, undef, undef]) (H' := fun L => [((L0.b 0), PC x), ((L0.b 1), PC 0)]) (by kernel_rfl) rfl rfl rfl (fun L => by kernel_rfl) (fun L => by kernel_rfl) hp1 ⟨
    ob_index (b := (L0.b 0)) (off := 0) (k := 1) (sz := 6) (n := 2) (fun _ => rfl) rfl rfl (fun _ => by kernel_rfl) (fun _ => by kernel_rfl) Tryd.underlying26 sizeF (by decide) rfl,
    ob_load (b := (L0.b 0)) (off := 6) (cs := FC x.c1) (by kernel_rfl) (fun _ => rfl) rfl rfl (fun _ => by kernel_rfl) (fun _ _ hs => partF2_1 (seen_at (k := 0) hs rfl)) Tryd.underlying24 rfl (sizeFC _),
    ob_build (qs := #[]) (fun _ => rfl) rfl rfl (fun _ => by kernel_rfl) buildF0,
    ob_eq (u := FV x.c1) (v := FV 0) (fun _ => rfl) rfl rfl (fun _ => by kernel_rfl) (fun _ => by kernel_rfl) (fun w => guardF _ _ _ _ _ w) (fun w => (eqlF _ _ w).trans (by rw [decide_eq_false (h1)]; try rfl)),
    trivial⟩ (fun L1 w2 hp2 => ?_)
  refine k3 _ _ ?_
  refine wp_cond_false (by kernel_rfl) ?_
  refine skips ?_
  refine k2 _ _ ?_
  refine wp_seq_k (fun K4 k4 => ?_)
  refine goes (ks := [.det (PV x), .det (PV r), .store (.base 1) 0 (PC r) (PC r)]) (T := [0, 1, 3]) (nt := 12) (nh := 2) (H := [((L0.b 0), PC x), ((L0.b 1), PC 0)]) (A := fun L => [PV x, .pointer (some ⟨(L0.b 0), 0, none⟩), .pointer (some ⟨(L0.b 1), 0, none⟩), .pointer (some ⟨(L0.b 0), 6, none⟩), FV x.c1, FV 0, .bool false, undef, undef, undef, PV x, PV r]) (H' := fun L => [((L0.b 0), PC x), ((L0.b 1), PC r)]) (by kernel_rfl) rfl rfl rfl (fun L => by kernel_rfl) (fun L => by kernel_rfl) hp2 ⟨
    ob_load (b := (L0.b 0)) (off := 0) (cs := PC x) (by kernel_rfl) (fun _ => rfl) rfl rfl (fun _ => by kernel_rfl) (fun _ _ hs => (seen_at (k := 0) hs rfl).cells) Tryd.underlying26 rfl (sizePC _),
    ob_call (vs := #[PV x]) (by kernel_rfl) (by kernel_rfl) (fun _ => rfl) rfl rfl (fun _ => by kernel_rfl) (fun w hb _ => hr w (K.stay hg hb)),
    ob_store (old := PC 0) (fun _ => rfl) rfl rfl (fun _ => by kernel_rfl) (fun _ => by kernel_rfl) rfl (sizePC _) (PC_one _) (le_len (PC_len _) (PC_len _) (by decide)) (splice_all ((PC_len _).trans (PC_len _).symm)).symm,
    trivial⟩ (fun L2 w3 hp3 => ?_)
  refine k4 _ _ ?_
  refine wp_ret ?_
  exact bodyPost_ret (v := PV r) (res_c rfl (by kernel_rfl) (hp3.bound 1 rfl).2 Tryd.underlying26 rfl (sizePC _)) rfl ⟨congrArg (fun z => Ending.returned (PV z)) he, hp3.bel⟩
theorem fp2anyRoot {G : World → Prop} (K : FpK G) (x : F2) (w : World) (hg : G w) (hH : ∀ w, G w → w.rangeAt 2 0 (FC hf)) : Calls Tryd.prog 45 #[PV x] w (Ret (PV (any2 x)) w) := by
  by_cases h1 : x.c1 = 0
  · by_cases hq : isq x.c0 = true
    · exact fp2any1 K x w hg h1 hq
    · exact fp2any2 K x w hg h1 (by simpa using hq)
  · by_cases hq : isq x.norm = true
    · obtain ⟨k0, k1, k2, k3, k4, k5⟩ := any2_cross h1 hq
      by_cases ht : isq ((x.c0 + root x.norm) * hf) = true
      · refine fp2any3 K x _ w hg h1 (fun w hg => fp2cross1 K x w hg hH hq ht (root_ne ht k0)) ?_
        unfold any2; rw [if_neg h1, if_pos hq, if_pos ht]
      · have ht' : isq ((x.c0 + root x.norm) * hf) = false := by simpa using ht
        refine fp2any3 K x _ w hg h1 (fun w hg => fp2cross2 K x w hg hH hq ht' (root_ne (k3 ht') k1)) ?_
        unfold any2; rw [if_neg h1, if_pos hq, if_neg ht]
    · refine fp2any3 K x _ w hg h1 (fun w hg => fp2cross0 K x w hg (by simpa using hq)) ?_
      unfold any2; rw [if_neg h1, if_neg hq]
set_option maxHeartbeats 4000000 in
theorem fp2sqrt0 {G : World → Prop} (K : FpK G) (x r : F2) (w : World) (hg : G w) (hr : ∀ w, G w → Calls Tryd.prog 45 #[PV x] w (Ret (PV r) w)) (hs : r * r ≠ x) : Calls Tryd.prog 24 #[PV x] w (Ret (.tuple #[PV 0, .bool false]) w) := by
  have hp0 := Heap.start w
  go_enter Tryd.func24, Tryd.ntmps24
  refine wp_seq_k (fun K1 k1 => ?_)
  refine goes (ks := [.alloc (PC x), .alloc (PC 0), .det (.bool false)]) (T := [0, 0, 0]) (nt := 18) (nh := 0) (H := []) (A := fun L => [PV x, .pointer (some ⟨L.b 0, 0, none⟩), .pointer (some ⟨L.b 1, 0, none⟩), .bool false, undef, undef, undef, undef, undef, undef, undef, undef, undef, undef, undef, undef, undef, undef]) (H' := fun L => [(L.b 0, PC x), (L.b 1, PC 0)]) (by kernel_rfl) rfl rfl rfl (fun L => by kernel_rfl) (fun L => by kernel_rfl) hp0 ⟨
    ob_box (v := PV x) (fun _ => rfl) rfl rfl (fun _ => by kernel_rfl) rfl,
    ob_alloc (v := PV 0) (fun _ => rfl) rfl rfl zeroP rfl,
    ob_assign (fun _ => rfl) rfl rfl (fun _ => by kernel_rfl),
    trivial⟩ (fun L0 w1 hp1 => ?_)
  refine k1 _ _ ?_
  refine wp_seq_k (fun K2 k2 => ?_)
  refine goes (ks := [.det (PV x), .det (PV r), .alloc (PC 0), .store (.new 2) 0 (PC r) (PC r)]) (T := [0, 1, 0, 7]) (nt := 18) (nh := 2) (H := [((L0.b 0), PC x), ((L0.b 1), PC 0)]) (A := fun L => [PV x, .pointer (some ⟨(L0.b 0), 0, none⟩), .pointer (some ⟨(L0.b 1), 0, none⟩), .bool false, .pointer (some ⟨L.b 2, 0, none⟩), PV x, PV r, undef, undef, undef, undef, undef, undef, undef, undef, undef, undef, undef]) (H' := fun L => [((L0.b 0), PC x), ((L0.b 1), PC 0), (L.b 2, PC r)]) (by kernel_rfl) rfl rfl rfl (fun L => by kernel_rfl) (fun L => by kernel_rfl) hp1 ⟨
    ob_load (b := (L0.b 0)) (off := 0) (cs := PC x) (by kernel_rfl) (fun _ => rfl) rfl rfl (fun _ => by kernel_rfl) (fun _ _ hs => (seen_at (k := 0) hs rfl).cells) Tryd.underlying26 rfl (sizePC _),
    ob_call (vs := #[PV x]) (by kernel_rfl) (by kernel_rfl) (fun _ => rfl) rfl rfl (fun _ => by kernel_rfl) (fun w hb _ => hr w (K.stay hg hb)),
    ob_alloc (v := PV 0) (fun _ => rfl) rfl rfl zeroP rfl,
    ob_store (old := PC 0) (fun _ => rfl) rfl rfl (fun _ => by kernel_rfl) (fun _ => by kernel_rfl) rfl (sizePC _) (PC_one _) (le_len (PC_len _) (PC_len _) (by decide)) (splice_all ((PC_len _).trans (PC_len _).symm)).symm,
    trivial⟩ (fun L1 w2 hp2 => ?_)
  refine k2 _ _ ?_
  refine wp_seq_k (fun K3 k3 => ?_)
  refine wp_seq_k (fun K4 k4 => ?_)
  refine draws (by kernel_rfl) (ks := [.det (PV r), .det (PV r), .det (PV ((r * r))), .det (PV x), .det (.bool true)]) (T := [0, 0, 3, 0, 15]) (nt := 18) (nh := 3) (H := [((L0.b 0), PC x), ((L0.b 1), PC 0), ((L1.b 2), PC r)]) (A := fun L => [PV x, .pointer (some ⟨(L0.b 0), 0, none⟩), .pointer (some ⟨(L0.b 1), 0, none⟩), .bool false, .pointer (some ⟨(L1.b 2), 0, none⟩), PV x, PV r, PV r, PV r, PV ((r * r)), PV x, .bool true, undef, undef, undef, undef, undef, undef]) (H' := fun L => [((L0.b 0), PC x), ((L0.b 1), PC 0), ((L1.b 2), PC r)]) (by kernel_rfl) rfl rfl rfl (fun L => by kernel_rfl) (fun L => by kernel_rfl) hp2 ⟨
    ob_load (b := (L1.b 2)) (off := 0) (cs := PC r) (by kernel_rfl) (fun _ => rfl) rfl rfl (fun _ => by kernel_rfl) (fun _ _ hs => (seen_at (k := 2) hs rfl).cells) Tryd.underlying26 rfl (sizePC _),
    ob_load (b := (L1.b 2)) (off := 0) (cs := PC r) (by kernel_rfl) (fun _ => rfl) rfl rfl (fun _ => by kernel_rfl) (fun _ _ hs => (seen_at (k := 2) hs rfl).cells) Tryd.underlying26 rfl (sizePC _),
    ob_call (vs := #[PV r, PV r]) (by kernel_rfl) (by kernel_rfl) (fun _ => rfl) rfl rfl (fun _ => by kernel_rfl) (fun w hb _ => fp2Mul K _ _ w (K.stay hg hb)),
    ob_load (b := (L0.b 0)) (off := 0) (cs := PC x) (by kernel_rfl) (fun _ => rfl) rfl rfl (fun _ => by kernel_rfl) (fun _ _ hs => (seen_at (k := 0) hs rfl).cells) Tryd.underlying26 rfl (sizePC _),
    ob_ne (u := PV ((r * r))) (v := PV x) (fun _ => rfl) rfl rfl (fun _ => by kernel_rfl) (fun _ => by kernel_rfl) (fun w => guardP _ _ _ _ _ w) (fun w => (neqP _ _ w).trans (by rw [decide_eq_false (hs)]; try rfl)),
    trivial⟩ (fun L2 w3 hp3 => ?_)
  refine k4 _ _ ?_
  refine wp_cond_true (by kernel_rfl) ?_
  refine wp_seq_k (fun K5 k5 => ?_)
  refine goes (ks := [.det (PV 0), .store (.base 1) 0 (PC 0) (PC 0), .det (.bool false)]) (T := [0, 1, 3]) (nt := 18) (nh := 3) (H := [((L0.b 0), PC x), ((L0.b 1), PC 0), ((L1.b 2), PC r)]) (A := fun L => [PV x, .pointer (some ⟨(L0.b 0), 0, none⟩), .pointer (some ⟨(L0.b 1), 0, none⟩), .bool false, .pointer (some ⟨(L1.b 2), 0, none⟩), PV x, PV r, PV r, PV r, PV ((r * r)), PV x, .bool true, PV 0, undef, undef, undef, undef, undef]) (H' := fun L => [((L0.b 0), PC x), ((L0.b 1), PC 0), ((L1.b 2), PC r)]) (by kernel_rfl) rfl rfl rfl (fun L => by kernel_rfl) (fun L => by kernel_rfl) hp3 ⟨
    ob_build (qs := #[]) (fun _ => rfl) rfl rfl (fun _ => by kernel_rfl) buildP0,
    ob_store (old := PC 0) (fun _ => rfl) rfl rfl (fun _ => by kernel_rfl) (fun _ => by kernel_rfl) rfl (sizePC _) (PC_one _) (le_len (PC_len _) (PC_len _) (by decide)) (splice_all ((PC_len _).trans (PC_len _).symm)).symm,
    ob_assign (fun _ => rfl) rfl rfl (fun _ => by kernel_rfl),
    trivial⟩ (fun L3 w4 hp4 => ?_)
  refine k5 _ _ ?_
  refine wp_ret ?_
  exact bodyPost_ret (v := .tuple #[PV 0, .bool false]) (res_ct rfl (by kernel_rfl) (by kernel_rfl) (hp4.bound 1 rfl).2 Tryd.underlying26 rfl (sizePC _)) rfl ⟨rfl, hp4.bel⟩
set_option maxHeartbeats 4000000 in
theorem fp2sqrt1 {G : World → Prop} (K : FpK G) (x r : F2) (w : World) (hg : G w) (hr : ∀ w, G w → Calls Tryd.prog 45 #[PV x] w (Ret (PV r) w)) (hs : r * r = x) (hG : r.great = true) : Calls Tryd.prog 24 #[PV x] w (Ret (.tuple #[PV (-r), .bool true]) w) := by
  have hp0 := Heap.start w
  go_enter Tryd.func24, Tryd.ntmps24
  refine wp_seq_k (fun K1 k1 => ?_)
  refine goes (ks := [.alloc (PC x), .alloc (PC 0), .det (.bool false)]) (T := [0, 0, 0]) (nt := 18) (nh := 0) (H := []) (A := fun L => [PV x, .pointer (some ⟨L.b 0, 0, none⟩), .pointer (some ⟨L.b 1, 0, none⟩), .bool false, undef, undef, undef, undef, undef, undef, undef, undef, undef, undef, undef, undef, undef, undef]) (H' := fun L => [(L.b 0, PC x), (L.b 1, PC 0)]) (by kernel_rfl) rfl rfl rfl (fun L => by kernel_rfl) (fun L => by kernel_rfl) hp0 ⟨
    ob_box (v := PV x) (fun _ => rfl) rfl rfl (fun _ => by kernel_rfl) rfl,
    ob_alloc (v := PV 0) (fun _ => rfl) rfl rfl zeroP rfl,
    ob_assign (fun _ => rfl) rfl rfl (fun _ => by kernel_rfl),
    trivial⟩ (fun L0 w1 hp1 => ?_)
  refine k1 _ _ ?_
  refine wp_seq_k (fun K2 k2 => ?_)
  refine goes (ks := [.det (PV x), .det (PV r), .alloc (PC 0), .store (.new 2) 0 (PC r) (PC r)]) (T := [0, 1, 0, 7]) (nt := 18) (nh := 2) (H := [((L0.b 0), PC x), ((L0.b 1), PC 0)]) (A := fun L => [PV x, .pointer (some ⟨(L0.b 0), 0, none⟩), .pointer (some ⟨(L0.b 1), 0, none⟩), .bool false, .pointer (some ⟨L.b 2, 0, none⟩), PV x, PV r, undef, undef, undef, undef, undef, undef, undef, undef, undef, undef, undef]) (H' := fun L => [((L0.b 0), PC x), ((L0.b 1), PC 0), (L.b 2, PC r)]) (by kernel_rfl) rfl rfl rfl (fun L => by kernel_rfl) (fun L => by kernel_rfl) hp1 ⟨
    ob_load (b := (L0.b 0)) (off := 0) (cs := PC x) (by kernel_rfl) (fun _ => rfl) rfl rfl (fun _ => by kernel_rfl) (fun _ _ hs => (seen_at (k := 0) hs rfl).cells) Tryd.underlying26 rfl (sizePC _),
    ob_call (vs := #[PV x]) (by kernel_rfl) (by kernel_rfl) (fun _ => rfl) rfl rfl (fun _ => by kernel_rfl) (fun w hb _ => hr w (K.stay hg hb)),
    ob_alloc (v := PV 0) (fun _ => rfl) rfl rfl zeroP rfl,
    ob_store (old := PC 0) (fun _ => rfl) rfl rfl (fun _ => by kernel_rfl) (fun _ => by kernel_rfl) rfl (sizePC _) (PC_one _) (le_len (PC_len _) (PC_len _) (by decide)) (splice_all ((PC_len _).trans (PC_len _).symm)).symm,
    trivial⟩ (fun L1 w2 hp2 => ?_)
  refine k2 _ _ ?_
  refine wp_seq_k (fun K3 k3 => ?_)
  refine wp_seq_k (fun K4 k4 => ?_)
  refine draws (by kernel_rfl) (ks := [.det (PV r), .det (PV r), .det (PV ((r * r))), .det (PV x), .det (.bool false)]) (T := [0, 0, 3, 0, 15]) (nt := 18) (nh := 3) (H := [((L0.b 0), PC x), ((L0.b 1), PC 0), ((L1.b 2), PC r)]) (A := fun L => [PV x, .pointer (some ⟨(L0.b 0), 0, none⟩), .pointer (some ⟨(L0.b 1), 0, none⟩), .bool false, .pointer (some ⟨(L1.b 2), 0, none⟩), PV x, PV r, PV r, PV r, PV ((r * r)), PV x, .bool false, undef, undef, undef, undef, undef, undef]) (H' := fun L => [((L0.b 0), PC x), ((L0.b 1), PC 0), ((L1.b 2), PC r)]) (by kernel_rfl) rfl rfl rfl (fun L => by kernel_rfl) (fun L => by kernel_rfl) hp2 ⟨
    ob_load (b := (L1.b 2)) (off := 0) (cs := PC r) (by kernel_rfl) (fun _ => rfl) rfl rfl (fun _ => by kernel_rfl) (fun _ _ hs => (seen_at (k := 2) hs rfl).cells) Tryd.underlying26 rfl (sizePC _),
    ob_load (b := (L1.b 2)) (off := 0) (cs := PC r) (by kernel_rfl) (fun _ => rfl) rfl rfl (fun _ => by kernel_rfl) (fun _ _ hs => (seen_at (k := 2) hs rfl).cells) Tryd.underlying26 rfl (sizePC _),
    ob_call (vs := #[PV r, PV r]) (by kernel_rfl) (by kernel_rfl) (fun _ => rfl) rfl rfl (fun _ => by kernel_rfl) (fun w hb _ => fp2Mul K _ _ w (K.stay hg hb)),
    ob_load (b := (L0.b 0)) (off := 0) (cs := PC x) (by kernel_rfl) (fun _ => rfl) rfl rfl (fun _ => by kernel_rfl) (fun _ _ hs => (seen_at (k := 0) hs rfl).cells) Tryd.underlying26 rfl (sizePC _),
    ob_ne (u := PV ((r * r))) (v := PV x) (fun _ => rfl) rfl rfl (fun _ => by kernel_rfl) (fun _ => by kernel_rfl) (fun w => guardP _ _ _ _ _ w) (fun w => (neqP _ _ w).trans (by rw [decide_eq_true (hs)]; try rfl)),
    trivial⟩ (fun L2 w3 hp3 => ?_)
  refine k4 _ _ ?_
  refine wp_cond_false (by kernel_rfl) ?_
  refine skips ?_
  refine k3 _ _ ?_
  refine wp_seq_k (fun K5 k5 => ?_)
  refine wp_seq_k (fun K6 k6 => ?_)
  refine goes (ks := [.det (PV r), .det (.bool true)]) (T := [0, 1]) (nt := 18) (nh := 3) (H := [((L0.b 0), PC x), ((L0.b 1), PC 0), ((L1.b 2), PC r)]) (A := fun L => [PV x, .pointer (some ⟨(L0.b 0), 0, none⟩), .pointer (some ⟨(L0.b 1), 0, none⟩), .bool false, .pointer (some ⟨(L1.b 2), 0, none⟩), PV x, PV r, PV r, PV r, PV ((r * r)), PV x, .bool false, undef, PV r, .bool true, undef, undef, undef]) (H' := fun L => [((L0.b 0), PC x), ((L0.b 1), PC 0), ((L1.b 2), PC r)]) (by kernel_rfl) rfl rfl rfl (fun L => by kernel_rfl) (fun L => by kernel_rfl) hp3 ⟨
    ob_load (b := (L1.b 2)) (off := 0) (cs := PC r) (by kernel_rfl) (fun _ => rfl) rfl rfl (fun _ => by kernel_rfl) (fun _ _ hs => (seen_at (k := 2) hs rfl).cells) Tryd.underlying26 rfl (sizePC _),
    ob_call (vs := #[PV r]) (by kernel_rfl) (by kernel_rfl) (fun _ => rfl) rfl rfl (fun _ => by kernel_rfl) (fun w hb _ => by have h := fp2Great K r w (K.stay hg hb); rw [hG] at h; exact h),
    trivial⟩ (fun L3 w4 hp4 => ?_)
  refine k6 _ _ ?_
  refine wp_cond_true (by kernel_rfl) ?_
  refine wp_seq_k (fun K7 k7 => ?_)
  refine goes (ks := [.det (PV r), .det (PV ((-r))), .store (.base 1) 0 (PC ((-r))) (PC ((-r))), .det (.bool true)]) (T := [0, 1, 3, 7]) (nt := 18) (nh := 3) (H := [((L0.b 0), PC x), ((L0.b 1), PC 0), ((L1.b 2), PC r)]) (A := fun L => [PV x, .pointer (some ⟨(L0.b 0), 0, none⟩), .pointer (some ⟨(L0.b 1), 0, none⟩), .bool true, .pointer (some ⟨(L1.b 2), 0, none⟩), PV x, PV r, PV r, PV r, PV ((r * r)), PV x, .bool false, undef, PV r, .bool true, PV r, PV ((-r)), undef]) (H' := fun L => [((L0.b 0), PC x), ((L0.b 1), PC ((-r))), ((L1.b 2), PC r)]) (by kernel_rfl) rfl rfl rfl (fun L => by kernel_rfl) (fun L => by kernel_rfl) hp4 ⟨
    ob_load (b := (L1.b 2)) (off := 0) (cs := PC r) (by kernel_rfl) (fun _ => rfl) rfl rfl (fun _ => by kernel_rfl) (fun _ _ hs => (seen_at (k := 2) hs rfl).cells) Tryd.underlying26 rfl (sizePC _),
    ob_call (vs := #[PV r]) (by kernel_rfl) (by kernel_rfl) (fun _ => rfl) rfl rfl (fun _ => by kernel_rfl) (fun w hb _ => fp2Neg K _ w (K.stay hg hb)),
    ob_store (old := PC 0) (fun _ => rfl) rfl rfl (fun _ => by kernel_rfl) (fun _ => by kernel_rfl) rfl (sizePC _) (PC_one _) (le_len (PC_len _) (PC_len _) (by decide)) (splice_all ((PC_len _).trans (PC_len _).symm)).symm,
    ob_assign (fun _ => rfl) rfl rfl (fun _ => by kernel_rfl),
    trivial⟩ (fun L4 w5 hp5 => ?_)
  refine k7 _ _ ?_
  refine wp_ret ?_
  exact bodyPost_ret (v := .tuple #[PV ((-r)), .bool true]) (res_ct rfl (by kernel_rfl) (by kernel_rfl) (hp5.bound 1 rfl).2 Tryd.underlying26 rfl (sizePC _)) rfl ⟨rfl, hp5.bel⟩
set_option maxHeartbeats 4000000 in
theorem fp2sqrt2 {G : World → Prop} (K : FpK G) (x r : F2) (w : World) (hg : G w) (hr : ∀ w, G w → Calls Tryd.prog 45 #[PV x] w (Ret (PV r) w)) (hs : r * r = x) (hG : r.great = false) : Calls Tryd.prog 24 #[PV x] w (Ret (.tuple #[PV r, .bool true]) w) := by
  have hp0 := Heap.start w
  go_enter Tryd.func24, Tryd.ntmps24
  refine wp_seq_k (fun K1 k1 => ?_)
  refine goes (ks := [.alloc (PC x), .alloc (PC 0), .det (.bool false)]) (T := [0, 0, 0]) (nt := 18) (nh := 0) (H := []) (A := fun L => [PV x, .pointer (some ⟨L.b 0, 0, none⟩), .pointer (some ⟨L.b 1, 0, none⟩), .bool false, undef, undef, undef, undef, undef, undef, undef, undef, undef, undef, undef, undef, undef, undef]) (H' := fun L => [(L.b 0, PC x), (L.b 1, PC 0)]) (by kernel_rfl) rfl rfl rfl (fun L => by kernel_rfl) (fun L => by kernel_rfl) hp0 ⟨
    ob_box (v := PV x) (fun _ => rfl) rfl rfl (fun _ => by kernel_rfl) rfl,
    ob_alloc (v := PV 0) (fun _ => rfl) rfl rfl zeroP rfl,
    ob_assign (fun _ => rfl) rfl rfl (fun _ => by kernel_rfl),
    trivial⟩ (fun L0 w1 hp1 => ?_)
  refine k1 _ _ ?_
  refine wp_seq_k (fun K2 k2 => ?_)
  refine goes (ks := [.det (PV x), .det (PV r), .alloc (PC 0), .store (.new 2) 0 (PC r) (PC r)]) (T := [0, 1, 0, 7]) (nt := 18) (nh := 2) (H := [((L0.b 0), PC x), ((L0.b 1), PC 0)]) (A := fun L => [PV x, .pointer (some ⟨(L0.b 0), 0, none⟩), .pointer (some ⟨(L0.b 1), 0, none⟩), .bool false, .pointer (some ⟨L.b 2, 0, none⟩), PV x, PV r, undef, undef, undef, undef, undef, undef, undef, undef, undef, undef, undef]) (H' := fun L => [((L0.b 0), PC x), ((L0.b 1), PC 0), (L.b 2, PC r)]) (by kernel_rfl) rfl rfl rfl (fun L => by kernel_rfl) (fun L => by kernel_rfl) hp1 ⟨
    ob_load (b := (L0.b 0)) (off := 0) (cs := PC x) (by kernel_rfl) (fun _ => rfl) rfl rfl (fun _ => by kernel_rfl) (fun _ _ hs => (seen_at (k := 0) hs rfl).cells) Tryd.underlying26 rfl (sizePC _),
    ob_call (vs := #[PV x]) (by kernel_rfl) (by kernel_rfl) (fun _ => rfl) rfl rfl (fun _ => by kernel_rfl) (fun w hb _ => hr w (K.stay hg hb)),
    ob_alloc (v := PV 0) (fun _ => rfl) rfl rfl zeroP rfl,
    ob_store (old := PC 0) (fun _ => rfl) rfl rfl (fun _ => by kernel_rfl) (fun _ => by kernel_rfl) rfl (sizePC _) (PC_one _) (le_len (PC_len _) (PC_len _) (by decide)) (splice_all ((PC_len _).trans (PC_len _).symm)).symm,
    trivial⟩ (fun L1 w2 hp2 => ?_)
  refine k2 _ _ ?_
  refine wp_seq_k (fun K3 k3 => ?_)
  refine wp_seq_k (fun K4 k4 => ?_)
  refine draws (by kernel_rfl) (ks := [.det (PV r), .det (PV r), .det (PV ((r * r))), .det (PV x), .det (.bool false)]) (T := [0, 0, 3, 0, 15]) (nt := 18) (nh := 3) (H := [((L0.b 0), PC x), ((L0.b 1), PC 0), ((L1.b 2), PC r)]) (A := fun L => [PV x, .pointer (some ⟨(L0.b 0), 0, none⟩), .pointer (some ⟨(L0.b 1), 0, none⟩), .bool false, .pointer (some ⟨(L1.b 2), 0, none⟩), PV x, PV r, PV r, PV r, PV ((r * r)), PV x, .bool false, undef, undef, undef, undef, undef, undef]) (H' := fun L => [((L0.b 0), PC x), ((L0.b 1), PC 0), ((L1.b 2), PC r)]) (by kernel_rfl) rfl rfl rfl (fun L => by kernel_rfl) (fun L => by kernel_rfl) hp2 ⟨
    ob_load (b := (L1.b 2)) (off := 0) (cs := PC r) (by kernel_rfl) (fun _ => rfl) rfl rfl (fun _ => by kernel_rfl) (fun _ _ hs => (seen_at (k := 2) hs rfl).cells) Tryd.underlying26 rfl (sizePC _),
    ob_load (b := (L1.b 2)) (off := 0) (cs := PC r) (by kernel_rfl) (fun _ => rfl) rfl rfl (fun _ => by kernel_rfl) (fun _ _ hs => (seen_at (k := 2) hs rfl).cells) Tryd.underlying26 rfl (sizePC _),
    ob_call (vs := #[PV r, PV r]) (by kernel_rfl) (by kernel_rfl) (fun _ => rfl) rfl rfl (fun _ => by kernel_rfl) (fun w hb _ => fp2Mul K _ _ w (K.stay hg hb)),
    ob_load (b := (L0.b 0)) (off := 0) (cs := PC x) (by kernel_rfl) (fun _ => rfl) rfl rfl (fun _ => by kernel_rfl) (fun _ _ hs => (seen_at (k := 0) hs rfl).cells) Tryd.underlying26 rfl (sizePC _),
    ob_ne (u := PV ((r * r))) (v := PV x) (fun _ => rfl) rfl rfl (fun _ => by kernel_rfl) (fun _ => by kernel_rfl) (fun w => guardP _ _ _ _ _ w) (fun w => (neqP _ _ w).trans (by rw [decide_eq_true (hs)]; try rfl)),
    trivial⟩ (fun L2 w3 hp3 => ?_)
  refine k4 _ _ ?_
  refine wp_cond_false (by kernel_rfl) ?_
  refine skips ?_
  refine k3 _ _ ?_
  refine wp_seq_k (fun K5 k5 => ?_)
  refine wp_seq_k (fun K6 k6 => ?_)
  refine goes (ks := [.det (PV r), .det (.bool false)]) (T := [0, 1]) (nt := 18) (nh := 3) (H := [((L0.b 0), PC x), ((L0.b 1), PC 0), ((L1.b 2), PC r)]) (A := fun L => [PV x, .pointer (some ⟨(L0.b 0), 0, none⟩), .pointer (some ⟨(L0.b 1), 0, none⟩), .bool false, .pointer (some ⟨(L1.b 2), 0, none⟩), PV x, PV r, PV r, PV r, PV ((r * r)), PV x, .bool false, undef, PV r, .bool false, undef, undef, undef]) (H' := fun L => [((L0.b 0), PC x), ((L0.b 1), PC 0), ((L1.b 2), PC r)]) (by kernel_rfl) rfl rfl rfl (fun L => by kernel_rfl) (fun L => by kernel_rfl) hp3 ⟨
    ob_load (b := (L1.b 2)) (off := 0) (cs := PC r) (by kernel_rfl) (fun _ => rfl) rfl rfl (fun _ => by kernel_rfl) (fun _ _ hs => (seen_at (k := 2) hs rfl).cells) Tryd.underlying26 rfl (sizePC _),
    ob_call (vs := #[PV r]) (by kernel_rfl) (by kernel_rfl) (fun _ => rfl) rfl rfl (fun _ => by kernel_rfl) (fun w hb _ => by have h := fp2Great K r w (K.stay hg hb); rw [hG] at h; exact h),
    trivial⟩ (fun L3 w4 hp4 => ?_)
  refine k6 _ _ ?_
  refine wp_cond_false (by kernel_rfl) ?_
  refine skips ?_
  refine k5 _ _ ?_
  refine wp_seq_k (fun K7 k7 => ?_)
  refine goes (ks := [.det (PV r), .store (.base 1) 0 (PC r) (PC r), .det (.bool true)]) (T := [0, 1, 3]) (nt := 18) (nh := 3) (H := [((L0.b 0), PC x), ((L0.b 1), PC 0), ((L1.b 2), PC r)]) (A := fun L => [PV x, .pointer (some ⟨(L0.b 0), 0, none⟩), .pointer (some ⟨(L0.b 1), 0, none⟩), .bool true, .pointer (some ⟨(L1.b 2), 0, none⟩), PV x, PV r, PV r, PV r, PV ((r * r)), PV x, .bool false, undef, PV r, .bool false, undef, undef, PV r]) (H' := fun L => [((L0.b 0), PC x), ((L0.b 1), PC r), ((L1.b 2), PC r)]) (by kernel_rfl) rfl rfl rfl (fun L => by kernel_rfl) (fun L => by kernel_rfl) hp4 ⟨
    ob_load (b := (L1.b 2)) (off := 0) (cs := PC r) (by kernel_rfl) (fun _ => rfl) rfl rfl (fun _ => by kernel_rfl) (fun _ _ hs => (seen_at (k := 2) hs rfl).cells) Tryd.underlying26 rfl (sizePC _),
    ob_store (old := PC 0) (fun _ => rfl) rfl rfl (fun _ => by kernel_rfl) (fun _ => by kernel_rfl) rfl (sizePC _) (PC_one _) (le_len (PC_len _) (PC_len _) (by decide)) (splice_all ((PC_len _).trans (PC_len _).symm)).symm,
    ob_assign (fun _ => rfl) rfl rfl (fun _ => by kernel_rfl),
    trivial⟩ (fun L4 w5 hp5 => ?_)
  refine k7 _ _ ?_
  refine wp_ret ?_
  exact bodyPost_ret (v := .tuple #[PV r, .bool true]) (res_ct rfl (by kernel_rfl) (by kernel_rfl) (hp5.bound 1 rfl).2 Tryd.underlying26 rfl (sizePC _)) rfl ⟨rfl, hp5.bel⟩
/-- The root that is told. -/
theorem fp2Sqrt {G : World → Prop} (K : FpK G) (x : F2) (w : World) (hg : G w) (hH : ∀ w, G w → w.rangeAt 2 0 (FC hf)) : Calls Tryd.prog 24 #[PV x] w (Ret (.tuple #[PV x.sq2, .bool x.is2]) w) := by
  have hr := fun w hg => fp2anyRoot K x w hg hH
  by_cases hs : any2 x * any2 x = x
  · rw [F2.is2_of hs]
    cases hG : (any2 x).great with
    | true =>
      have h0 : any2 x ≠ 0 := fun e => by rw [e, F2.great_zero'] at hG; cases hG
      rw [F2.sq2_of (r := -any2 x) (by rw [F2.neg_mul_neg']; exact hs) (by rw [F2.great_neg' h0, hG]; rfl)]
      exact fp2sqrt1 K x _ w hg hr hs hG
    | false =>
      rw [F2.sq2_of hs hG]
      exact fp2sqrt2 K x _ w hg hr hs hG
  · obtain ⟨e1, e2⟩ := F2.is2_no (a := x) (fun r hr => hs (any2_sq hr))
    rw [e1, e2]
    exact fp2sqrt0 K x _ w hg hr hs
end Go.Proofs.YtgoghcmnnhglhaaDoor.fpn
