/- What lift, drop, bitAt, Mul, Pow, Inv and Root of package fr answer. -/
import Derived.Test.YtgdmjngajjoliaaDoorZB
import Derived.Test.YtgdmjngajjoliaaDoorZV
import Derived.Test.YtgdmjngajjoliaaDoorZU
import Derived.Test.YtgdmjngajjoliaaDoorZW
import Derived.Test.YtgdmjngajjoliaaDoorSA
import Derived.Test.YtgdmjngajjoliaaDoorQZ
import Derived.Test.YtgdmjngajjoliaaDoorWZ
import Derived.Deep.RegionHeld3
import Derived.ScopeJumps
namespace Go.Proofs.YtgdmjngajjoliaaDoor.fpn
open Go.RowKit
attribute [local go_sem ↓] Go.wp_at_zero Go.wp_at_succ
set_option linter.unusedVariables false

/-- As Q; by a goto to label 0: J0; to label 1: J1. -/
def Exit.jump2 (J0 J1 : Act → World → Prop) (Q : Exit → Act → World → Prop) : Exit → Act → World → Prop
  | .goto l, a, w => (l = 0 ∧ J0 a w) ∨ (l = 1 ∧ J1 a w)
  | e, a, w => Q e a w

theorem wp_scope_two {P : Program} {a : Act} {w : World} {Q : Exit → Act → World → Prop} {c r0 r1 : Code} (J0 J1 : Act → World → Prop) (m0 m1 : Act → World → Nat)
    (hf0 : findLabel c 0 = some (.seq .skip r0)) (hf1 : findLabel c 1 = some (.seq .skip r1))
    (pass1 : ∀ a w, J1 a w → r1.wp P (Exit.jump2 (fun _ _ => False) (fun a' w' => J1 a' w' ∧ m1 a' w' < m1 a w) Q) a w)
    (pass0 : (∀ J a w, J1 a w → r1.wp P (Exit.jump2 J J1 Q) a w) → ∀ a w, J0 a w → r0.wp P (Exit.jump2 (fun a' w' => J0 a' w' ∧ m0 a' w' < m0 a w) J1 Q) a w)
    (first : (∀ a w, J0 a w → r0.wp P (Exit.jump2 J0 J1 Q) a w) → c.wp P (Exit.jump2 J0 J1 Q) a w) : (Code.scope c).wp P Q a w := by
  have h1 : ∀ J a w, J1 a w → r1.wp P (Exit.jump2 J J1 Q) a w := fun J a w h => wp_mono (pass1 a w h) (fun e a w q => by
    cases e <;> first | exact q | (rcases q with ⟨_, q⟩ | ⟨q1, q2, _⟩; exact q.elim; exact Or.inr ⟨q1, q2⟩))
  have p0 := pass0 h1
  have h0 : ∀ a w, J0 a w → r0.wp P (Exit.jump2 J0 J1 Q) a w := fun a w h => wp_mono (p0 a w h) (fun e a w q => by
    cases e <;> first | exact q | (rcases q with ⟨q1, q2, _⟩ | q; exact Or.inl ⟨q1, q2⟩; exact Or.inr q))
  have f := first h0
  intro b k cs
  have hg0 : gotoIn 0 (.inScope c :: k) = some (.code (.seq .skip r0) :: .inScope c :: k) := by simp [gotoIn, hf0]
  have hg1 : gotoIn 1 (.inScope c :: k) = some (.code (.seq .skip r1) :: .inScope c :: k) := by simp [gotoIn, hf1]
  have key1 : ∀ n a w, m1 a w = n → J1 a w → ∃ e a' w', Q e a' w' ∧ Arrives P (lone (b.at a (.code (.seq .skip r1) :: .inScope c :: k)) cs w) b k cs e a' w' := by
    intro n
    induction n using Nat.strongRecOn with
    | _ n ih =>
      intro a w hn hJ
      obtain ⟨e, a1, w1, hq, harr⟩ := wp_seq (wp_skip (pass1 a w hJ)) b (.inScope c :: k) cs
      cases e with
      | normal => exact ⟨.normal, a1, w1, hq, Steps.trans harr (.one step_inScope)⟩
      | exit id => exact ⟨.exit id, a1, w1, hq, fun k' hk => harr k' (by simp [exitTo, hk])⟩
      | goto l' =>
        rcases hq with ⟨_, hq⟩ | ⟨rfl, hJ', hlt⟩
        · exact hq.elim
        · obtain ⟨e2, a2, w2, hq2, harr2⟩ := ih _ (by omega) a1 w1 rfl hJ'
          exact ⟨e2, a2, w2, hq2, .of_steps (harr _ hg1) harr2⟩
      | ret => exact ⟨_, a1, w1, hq, harr⟩
      | panic ch => exact ⟨_, a1, w1, hq, harr⟩
      | outgrown => exact ⟨_, a1, w1, hq, harr⟩
  have key0 : ∀ n a w, m0 a w = n → J0 a w → ∃ e a' w', Q e a' w' ∧ Arrives P (lone (b.at a (.code (.seq .skip r0) :: .inScope c :: k)) cs w) b k cs e a' w' := by
    intro n
    induction n using Nat.strongRecOn with
    | _ n ih =>
      intro a w hn hJ
      obtain ⟨e, a1, w1, hq, harr⟩ := wp_seq (wp_skip (p0 a w hJ)) b (.inScope c :: k) cs
      cases e with
      | normal => exact ⟨.normal, a1, w1, hq, Steps.trans harr (.one step_inScope)⟩
      | exit id => exact ⟨.exit id, a1, w1, hq, fun k' hk => harr k' (by simp [exitTo, hk])⟩
      | goto l' =>
        rcases hq with ⟨rfl, hJ', hlt⟩ | ⟨rfl, hJ'⟩
        · obtain ⟨e2, a2, w2, hq2, harr2⟩ := ih _ (by omega) a1 w1 rfl hJ'
          exact ⟨e2, a2, w2, hq2, .of_steps (harr _ hg0) harr2⟩
        · obtain ⟨e2, a2, w2, hq2, harr2⟩ := key1 _ a1 w1 rfl hJ'
          exact ⟨e2, a2, w2, hq2, .of_steps (harr _ hg1) harr2⟩
      | ret => exact ⟨_, a1, w1, hq, harr⟩
      | panic ch => exact ⟨_, a1, w1, hq, harr⟩
      | outgrown => exact ⟨_, a1, w1, hq, harr⟩
  obtain ⟨e, a1, w1, hq, harr⟩ := f b (.inScope c :: k) cs
  cases e with
  | normal => exact ⟨.normal, a1, w1, hq, .head step_scope (Steps.trans harr (.one step_inScope))⟩
  | exit id => exact ⟨.exit id, a1, w1, hq, fun k' hk => .head step_scope (harr k' (by simp [exitTo, hk]))⟩
  | goto l' =>
    rcases hq with ⟨rfl, hJ'⟩ | ⟨rfl, hJ'⟩
    · obtain ⟨e2, a2, w2, hq2, harr2⟩ := key0 _ a1 w1 rfl hJ'
      exact ⟨e2, a2, w2, hq2, .of_steps (.head step_scope (harr _ hg0)) harr2⟩
    · obtain ⟨e2, a2, w2, hq2, harr2⟩ := key1 _ a1 w1 rfl hJ'
      exact ⟨e2, a2, w2, hq2, .of_steps (.head step_scope (harr _ hg1)) harr2⟩
  | ret => exact ⟨_, a1, w1, hq, .of_steps (.one step_scope) harr⟩
  | panic ch => exact ⟨_, a1, w1, hq, .of_steps (.one step_scope) harr⟩
  | outgrown => exact ⟨_, a1, w1, hq, .of_steps (.one step_scope) harr⟩

/-- Montgomery's factor taken off. -/
theorem cancel4 {x y : Int} (h : x * pw 6 % RI = y * pw 6 % RI) (h0 : 0 ≤ x) (h1 : x < RI) : x = y % RI := by
  have e2 : x * pw 6 * uI % RI = y * pw 6 * uI % RI := by rw [← mul_mod_l, h, mul_mod_l]
  have e3 : pw 6 * uI % RI = 1 := by decide +kernel
  rw [Int.mul_assoc, ← mul_mod_r, e3, Int.mul_assoc y, ← mul_mod_r y, e3, Int.mul_one, Int.mul_one] at e2
  rw [← e2]; exact (Int.emod_eq_of_lt h0 h1).symm

theorem lift_num {x a : Int} (h : x * pw 6 % RI = a * val cL 6 % RI) (h0 : 0 ≤ x) (h1 : x < RI) : x = a * pw 6 % RI :=
  cancel4 (by rw [h, ← mul_mod_r, cL_val, mul_mod_r, Int.mul_assoc]) h0 h1
theorem drop_num {x a p : Int} (h : x * pw 6 % RI = p * 1 % RI) (hp : p = a * pw 6 % RI) (h0 : 0 ≤ x) (h1 : x < RI) : x = a % RI :=
  cancel4 (by rw [h, Int.mul_one, hp, Int.emod_emod]) h0 h1
theorem times_num {x a b p q : Int} (h : x * pw 6 % RI = p * q % RI) (hp : p = a * pw 6 % RI) (hq : q = b * pw 6 % RI) (h0 : 0 ≤ x) (h1 : x < RI) : x = a * b * pw 6 % RI :=
  cancel4 (by rw [h, hp, hq, mul_mod_l, mul_mod_r, Int.mul_assoc a, Int.mul_comm (pw 6) (b * pw 6), ← Int.mul_assoc, ← Int.mul_assoc a]) h0 h1
theorem mul_num {x a b p : Int} (h : x * pw 6 % RI = p * b % RI) (hp : p = a * pw 6 % RI) (h0 : 0 ≤ x) (h1 : x < RI) : x = a * b % RI :=
  cancel4 (by rw [h, hp, mul_mod_l, Int.mul_assoc, Int.mul_comm (pw 6), ← Int.mul_assoc]) h0 h1

theorem lift_any (f : Nat → Int) (w : World) (hg : Gl w) (rf : Rg f 6) : Calls Tryd.prog 48 #[.agg #[.int .u64 (f 0), .int .u64 (f 1), .int .u64 (f 2), .int .u64 (f 3), .int .u64 (f 4), .int .u64 (f 5)]] w fun e w' => ∃ h : Nat → Int, e = .returned (.agg #[.int .u64 (h 0), .int .u64 (h 1), .int .u64 (h 2), .int .u64 (h 3), .int .u64 (h 4), .int .u64 (h 5)]) ∧ Rg h 6 ∧ val h 6 = val f 6 * pw 6 % RI ∧ Below w.heap.size w w' := by
  obtain ⟨B1, z1, -, hR⟩ := pair_all w f 24
  unfold pair at B1 z1 hR
  obtain ⟨c0, c1, c2, c3, c4, c5⟩ := at6 (hg.stay B1).2
  have K : Hid _ := fun w => times_any f cL w rf cL_rg (by have := cL_lt; rw [rL_val] at this; exact this)
  go_enter Tryd.func48, Tryd.ntmps48
  go_wp2_with fail
  generalize (w.alloc (.cells #[.int .u64 (f 0), .int .u64 (f 1), .int .u64 (f 2), .int .u64 (f 3), .int .u64 (f 4), .int .u64 (f 5)] 24)).alloc (.cells #[.int .u64 0, .int .u64 0, .int .u64 0, .int .u64 0, .int .u64 0, .int .u64 0] 24) = W at *
  refine Calls.mono (K.out _) ?_
  rintro e w2 ⟨h, rfl, r2, l2, v2, b2⟩
  obtain ⟨y0, y1, y2, y3, y4, y5⟩ := (hR.below b2 (by rw [z1]; omega)).cells6
  obtain ⟨x0, x1, x2, x3, x4, x5⟩ := (hR.below b2 (by rw [z1]; omega)).free6
  have HB : Hid _ := Below.up B1 (Nat.le_refl _) b2
  have R2 : Hid _ := r2
  have V2 : Hid _ := lift_num v2 (val_bd r2).1 l2
  clear b2 B1 hR r2 l2 v2 c0 c1 c2 c3 c4 c5
  go_wp2
  refine bodyPost_ret (v := .agg #[.int .u64 (h 0), .int .u64 (h 1), .int .u64 (h 2), .int .u64 (h 3), .int .u64 (h 4), .int .u64 (h 5)]) (by simp [results, Tryd.results48, go_sem, y0, y1, y2, y3, y4, y5]) rfl ⟨h, rfl, R2.out, V2.out, ?_⟩
  exact below_set6 HB.out (by omega) _ _ _ _ _ _

theorem drop_any (f : Nat → Int) (X : Int) (w : World) (rf : Rg f 6) (hf : val f 6 = X * pw 6 % RI) : Calls Tryd.prog 55 #[.agg #[.int .u64 (f 0), .int .u64 (f 1), .int .u64 (f 2), .int .u64 (f 3), .int .u64 (f 4), .int .u64 (f 5)]] w fun e w' => ∃ h : Nat → Int, e = .returned (.agg #[.int .u64 (h 0), .int .u64 (h 1), .int .u64 (h 2), .int .u64 (h 3), .int .u64 (h 4), .int .u64 (h 5)]) ∧ Rg h 6 ∧ val h 6 = X % RI ∧ Below w.heap.size w w' := by
  obtain ⟨B1, z1, hF, hR⟩ := pair_all w f 24
  unfold pair at B1 z1 hF hR
  have KO : Hid _ := fun w => frOf_any 1 w ⟨by decide, by rw [B64_eq]; decide⟩
  have K : Hid _ := fun (g : Nat → Int) w (rg : Rg g 6) (vg : val g 6 = 1) => times_any f g w rf rg (by rw [vg]; decide)
  have HX : Hid _ := hf
  clear hf
  go_enter Tryd.func55, Tryd.ntmps55
  go_wp2_with fail
  generalize (w.alloc (.cells #[.int .u64 (f 0), .int .u64 (f 1), .int .u64 (f 2), .int .u64 (f 3), .int .u64 (f 4), .int .u64 (f 5)] 24)).alloc (.cells #[.int .u64 0, .int .u64 0, .int .u64 0, .int .u64 0, .int .u64 0, .int .u64 0] 24) = W at *
  have HS : Hid (∀ x, Below W.heap.size W x → (x.cell? ⟨w.heap.size, 0, none⟩ = some (.int .u64 (f 0)) ∧ x.cell? ⟨w.heap.size, 1, none⟩ = some (.int .u64 (f 1)) ∧ x.cell? ⟨w.heap.size, 2, none⟩ = some (.int .u64 (f 2)) ∧ x.cell? ⟨w.heap.size, 3, none⟩ = some (.int .u64 (f 3)) ∧ x.cell? ⟨w.heap.size, 4, none⟩ = some (.int .u64 (f 4)) ∧ x.cell? ⟨w.heap.size, 5, none⟩ = some (.int .u64 (f 5)))) := fun x hx => (hF.below hx (by omega)).cells6
  have BW : Hid (Below W.heap.size W W.drew) := (Below.refl _ _).drew
  have B1' : Hid _ := B1
  have HR : Hid _ := hR
  have Z1 : Hid _ := z1
  clear hF hR B1 z1
  obtain ⟨a0, a1, a2, a3, a4, a5⟩ := HS.out _ (Below.refl _ _)
  go_region_with (first
    | (go_at_call 21; refine Calls.mono (KO.out _) ?_; rintro e x1 ⟨h1, rfl, r1, v1, b1⟩; have BX := Below.up BW.out (Nat.le_refl _) b1; clear BW; obtain ⟨e0, e1, e2, e3, e4, e5⟩ := HS.out _ BX; have BW : Hid _ := BX; clear BX; have R1 : Hid _ := r1; have V1 : Hid _ := v1; clear b1 r1 v1)
    | (go_at_call 47; refine Calls.mono (K.out h1 _ R1.out V1.out) ?_; rintro e x2 ⟨h, rfl, r2, l2, v2, b2⟩; have BX := Below.up BW.out (Nat.le_refl _) b2; clear BW; obtain ⟨y0, y1, y2, y3, y4, y5⟩ := (MutK.below HR.out BX (by rw [Z1.out]; omega)).cells6; obtain ⟨x0, x1, x2, x3, x4, x5⟩ := (MutK.below HR.out BX (by rw [Z1.out]; omega)).free6; have BW : Hid _ := BX; have HB : Hid _ := Below.up B1'.out (Nat.le_refl _) BX; have R2 : Hid _ := r2; have V2 : Hid _ := drop_num (by rw [V1.out] at v2; exact v2) HX.out (val_bd r2).1 l2; clear b2 r2 l2 v2 BX))
  all_goals
    go_wp2
    refine bodyPost_ret (v := .agg #[.int .u64 (h 0), .int .u64 (h 1), .int .u64 (h 2), .int .u64 (h 3), .int .u64 (h 4), .int .u64 (h 5)]) (by simp [results, Tryd.results55, go_sem, y0, y1, y2, y3, y4, y5]) rfl ⟨h, rfl, R2.out, V2.out, ?_⟩
    exact below_set6 HB.out (by omega) _ _ _ _ _ _

theorem bitAt_any (p : Option Addr) (n c : Nat) (g : Nat → Int) (j : Nat) (w : World) (hj : j < 64 * n) (hn : n ≤ 1000) (h : At w p n g) (rg : Rg g n) :
    Calls Tryd.prog 54 #[.slice p n c, .int .i64 j] w fun e w' => e = .returned (.int .u64 (g (j / 64) / 2 ^ (j % 64) % 2)) ∧ w' = w := by
  obtain ⟨b, off, rfl, hcell⟩ := h (by omega)
  have hm1 := hcell (j / 64) (by omega)
  have r := rg (j / 64) (by omega)
  have hbit : bits BinOp.and IntKind.u64 (g (j / 64) / 2 ^ (j % 64)) 1 = g (j / 64) / 2 ^ (j % 64) % 2 := and_one _ (Int.ediv_nonneg r.1 (Int.le_of_lt (Int.pow_pos (by decide)))) (by
    have := Int.ediv_le_self (2 ^ (j % 64)) r.1
    rw [B64_eq] at r
    omega)
  have HB : Hid _ := hbit
  have i1 : (j : Int) / 64 < (n : Int) := by omega
  clear hcell h hbit r rg
  go_enter Tryd.func54, Tryd.ntmps54
  go_wp2
  go_ret
  exact ⟨ret_int HB.out, rfl⟩

theorem frMul_any (f g : Nat → Int) (w : World) (hg : Gl w) (rf : Rg f 6) (rg : Rg g 6) :
    Calls Tryd.prog 18 #[.agg #[.int .u64 (f 0), .int .u64 (f 1), .int .u64 (f 2), .int .u64 (f 3), .int .u64 (f 4), .int .u64 (f 5)], .agg #[.int .u64 (g 0), .int .u64 (g 1), .int .u64 (g 2), .int .u64 (g 3), .int .u64 (g 4), .int .u64 (g 5)]] w fun e w' => ∃ h : Nat → Int, e = .returned (.agg #[.int .u64 (h 0), .int .u64 (h 1), .int .u64 (h 2), .int .u64 (h 3), .int .u64 (h 4), .int .u64 (h 5)]) ∧ Rg h 6 ∧ val h 6 = val f 6 * val g 6 % RI ∧ Below w.heap.size w w' := by
  obtain ⟨B1, z1, hF, hG, hR⟩ := three_all w f g 24
  unfold three at B1 z1 hF hG hR
  have KL : Hid _ := fun w hg => lift_any f w hg rf
  have K : Hid _ := fun (k : Nat → Int) w (rk : Rg k 6) (lk : val k 6 < RI) => times_any g k w rg rk lk
  have hgl := hg.stay B1
  clear rf rg hg
  go_enter Tryd.func18, Tryd.ntmps18
  go_wp2_with fail
  generalize ((w.alloc (.cells #[.int .u64 (f 0), .int .u64 (f 1), .int .u64 (f 2), .int .u64 (f 3), .int .u64 (f 4), .int .u64 (f 5)] 24)).alloc (.cells #[.int .u64 (g 0), .int .u64 (g 1), .int .u64 (g 2), .int .u64 (g 3), .int .u64 (g 4), .int .u64 (g 5)] 24)).alloc (.cells #[.int .u64 0, .int .u64 0, .int .u64 0, .int .u64 0, .int .u64 0, .int .u64 0] 24) = W at *
  have HS : Hid (∀ x, Below W.heap.size W x → ((x.cell? ⟨w.heap.size, 0, none⟩ = some (.int .u64 (f 0)) ∧ x.cell? ⟨w.heap.size, 1, none⟩ = some (.int .u64 (f 1)) ∧ x.cell? ⟨w.heap.size, 2, none⟩ = some (.int .u64 (f 2)) ∧ x.cell? ⟨w.heap.size, 3, none⟩ = some (.int .u64 (f 3)) ∧ x.cell? ⟨w.heap.size, 4, none⟩ = some (.int .u64 (f 4)) ∧ x.cell? ⟨w.heap.size, 5, none⟩ = some (.int .u64 (f 5))) ∧ (x.cell? ⟨w.heap.size + 1, 0, none⟩ = some (.int .u64 (g 0)) ∧ x.cell? ⟨w.heap.size + 1, 1, none⟩ = some (.int .u64 (g 1)) ∧ x.cell? ⟨w.heap.size + 1, 2, none⟩ = some (.int .u64 (g 2)) ∧ x.cell? ⟨w.heap.size + 1, 3, none⟩ = some (.int .u64 (g 3)) ∧ x.cell? ⟨w.heap.size + 1, 4, none⟩ = some (.int .u64 (g 4)) ∧ x.cell? ⟨w.heap.size + 1, 5, none⟩ = some (.int .u64 (g 5))))) := fun x hx => ⟨at6 (hF.below hx), at6 (hG.below hx)⟩
  have BW : Hid (Below W.heap.size W W.drew) := (Below.refl _ _).drew
  have B1' : Hid _ := B1
  have HR : Hid _ := hR
  have Z1 : Hid _ := z1
  have HGL : Hid _ := hgl
  clear hF hG hR B1 z1 hgl
  obtain ⟨⟨a0, a1, a2, a3, a4, a5⟩, c0, c1, c2, c3, c4, c5⟩ := HS.out _ (Below.refl _ _)
  go_region_with (first
    | (go_at_call 48; refine Calls.mono (KL.out _ (Gl.stay HGL.out BW.out)) ?_; rintro e x1 ⟨h1, rfl, r1, v1, b1⟩; have BX := Below.up BW.out (Nat.le_refl _) b1; clear BW; obtain ⟨⟨e0, e1, e2, e3, e4, e5⟩, d0, d1, d2, d3, d4, d5⟩ := HS.out _ BX; have BW : Hid _ := BX; clear BX; have R1 : Hid _ := r1; have V1 : Hid _ := v1; clear b1 r1 v1)
    | (go_at_call 47; refine Calls.mono (K.out h1 _ R1.out (by rw [V1.out]; exact modR_lt _)) ?_; rintro e x2 ⟨h, rfl, r2, l2, v2, b2⟩; have BX := Below.up BW.out (Nat.le_refl _) b2; clear BW; obtain ⟨y0, y1, y2, y3, y4, y5⟩ := (MutK.below HR.out BX (by rw [Z1.out]; omega)).cells6; obtain ⟨x0, x1, x2, x3, x4, x5⟩ := (MutK.below HR.out BX (by rw [Z1.out]; omega)).free6; have BW : Hid _ := BX; have HB : Hid _ := Below.up B1'.out (Nat.le_refl _) BX; have R2 : Hid _ := r2; have V2 : Hid _ := mul_num (by rw [Int.mul_comm (val g 6)] at v2; exact v2) V1.out (val_bd r2).1 l2; clear b2 r2 l2 v2 BX))
  all_goals
    go_wp2
    refine bodyPost_ret (v := .agg #[.int .u64 (h 0), .int .u64 (h 1), .int .u64 (h 2), .int .u64 (h 3), .int .u64 (h 4), .int .u64 (h 5)]) (by simp [results, Tryd.results18, go_sem, y0, y1, y2, y3, y4, y5]) rfl ⟨h, rfl, R2.out, V2.out, ?_⟩
    exact below_set6 HB.out (by omega) _ _ _ _ _ _

/-- What the two rounds of Pow keep. -/
def powJ (f : Nat → Int) (p : Option Addr) (n c : Nat) (E : Nat) (w : World) (T : Nat → Prop) : Act → World → Prop := fun a' w' => ∃ (L b : Nat) (k h : Nat → Int) (u8 u9 u10 u11 u12 u13 u14 u15 u16 u17 u18 u19 u20 u21 u22 u23 u24 u25 u26 u27 u28 u29 u30 u31 u32 u33 u34 u35 u36 u37 u38 u39 u40 u41 : Value),
  a' = { tmps := #[.agg #[.int .u64 (f 0), .int .u64 (f 1), .int .u64 (f 2), .int .u64 (f 3), .int .u64 (f 4), .int .u64 (f 5)], .slice p n c, .pointer (some ⟨w.heap.size, 0, none⟩), undef, .pointer (some ⟨w.heap.size + 1, 0, none⟩), .pointer (some ⟨b, 0, none⟩), .pointer (some ⟨b + 1, 0, none⟩), .int .i64 L, u8, u9, u10, u11, u12, u13, u14, u15, u16, u17, u18, u19, u20, u21, u22, u23, u24, u25, u26, u27, u28, u29, u30, u31, u32, u33, u34, u35, u36, u37, u38, u39, u40, u41], defers := [] } ∧ T L ∧ L ≤ 64 * n ∧ w.heap.size + 2 ≤ b ∧ Below w.heap.size w w' ∧ Mut w' (w.heap.size + 1) 0 6 Z ∧ Mut w' b 0 6 k ∧ Rg k 6 ∧ val k 6 = val f 6 * pw 6 % RI ∧ Mut w' (b + 1) 0 6 h ∧ Rg h 6 ∧ val h 6 = val f 6 ^ (E / 2 ^ L) * pw 6 % RI

theorem frPow_any (f : Nat → Int) (p : Option Addr) (n c : Nat) (g : Nat → Int) (E : Nat) (w : World) (hg : Gl w) (rf : Rg f 6) (hn : n ≤ 24) (he : At w p n g) (rg : Rg g n) (hE : val g n = (E : Int)) :
    Calls Tryd.prog 31 #[.agg #[.int .u64 (f 0), .int .u64 (f 1), .int .u64 (f 2), .int .u64 (f 3), .int .u64 (f 4), .int .u64 (f 5)], .slice p n c] w fun e w' => ∃ h : Nat → Int, e = .returned (.agg #[.int .u64 (h 0), .int .u64 (h 1), .int .u64 (h 2), .int .u64 (h 3), .int .u64 (h 4), .int .u64 (h 5)]) ∧ Rg h 6 ∧ val h 6 = val f 6 ^ E % RI ∧ Below w.heap.size w w' := by
  obtain ⟨B1, z1, hF, hR⟩ := pair_all w f 24
  unfold pair at B1 z1 hF hR
  have KL : Hid _ := fun (k : Nat → Int) w hg (rk : Rg k 6) => lift_any k w hg rk
  have KO : Hid _ := fun w => frOf_any 1 w ⟨by decide, by rw [B64_eq]; decide⟩
  have hgl := hg.stay B1
  have N0 : ∀ j, j < 64 * n → Hid (g (j / 64) / 2 ^ (j % 64) % 2 = ((E / 2 ^ j % 2 : Nat) : Int)) := fun j hj => nat_bit rg hE hj
  have NT : Hid _ := nat_top rg hE
  have HRG : Hid _ := rg
  have HE : Hid _ := he
  clear rg hE he
  go_enter Tryd.func31, Tryd.ntmps31
  go_wp2_with fail
  refine wp_scope_two (powJ f p n c E w (fun L => E / 2 ^ L = 0)) (powJ f p n c E w (fun _ => True)) (fun a' _ => slot 7 a') (fun a' _ => slot 7 a') rfl rfl ?_ ?_ ?_
  · clear hF hR B1 z1 hgl KL KO hg NT rf
    rintro a' W ⟨L, b, k, h, u8, u9, u10, u11, u12, u13, u14, u15, u16, u17, u18, u19, u20, u21, u22, u23, u24, u25, u26, u27, u28, u29, u30, u31, u32, u33, u34, u35, u36, u37, u38, u39, u40, u41, rfl, -, hL, hb, hbel, hR, hK, rk, vk, hH, rh, vh⟩
    cases L with
    | zero =>
      obtain ⟨x0, x1, x2, x3, x4, x5⟩ := hH.cells6
      rw [Nat.pow_zero, Nat.div_one] at vh
      have D : Hid _ := fun w => drop_any h (val f 6 ^ E) w rh vh
      have bl : w.heap.size + 2 ≤ W.heap.size := by have := cell_lt x0; simp only at this; omega
      clear rh vh hK rk vk hH
      go_wp2_with fail
      refine Calls.mono (D.out W) ?_
      rintro e w2 ⟨h2, rfl, r2, v2, b2⟩
      obtain ⟨y0, y1, y2, y3, y4, y5⟩ := (hR.below b2 (by omega)).cells6
      obtain ⟨z0, z1, z2, z3, z4, z5⟩ := (hR.below b2 (by omega)).free6
      have HB : Hid _ := Below.up hbel (Nat.le_refl _) b2
      have R2 : Hid _ := r2
      have V2 : Hid _ := v2
      clear b2 r2 v2 hR hbel x0 x1 x2 x3 x4 x5
      go_wp2
      simp only [Exit.jump2]
      refine bodyPost_ret (v := .agg #[.int .u64 (h2 0), .int .u64 (h2 1), .int .u64 (h2 2), .int .u64 (h2 3), .int .u64 (h2 4), .int .u64 (h2 5)]) (by simp [results, Tryd.results31, go_sem, y0, y1, y2, y3, y4, y5]) rfl ⟨h2, rfl, R2.out, V2.out, ?_⟩
      exact below_set6 HB.out (by omega) _ _ _ _ _ _
    | succ j =>
      obtain ⟨x0, x1, x2, x3, x4, x5⟩ := hH.cells6
      have M1 : Hid _ := fun w => times_any h h w rh rh (by rw [vh]; exact modR_lt _)
      have bl : b + 1 < W.heap.size := cell_lt x0
      go_wp2_with fail
      refine Calls.mono (M1.out W) ?_
      rintro e w2 ⟨h2, rfl, r2, l2, v2, b2⟩
      have v2' := times_num v2 vh vh (val_bd r2).1 l2
      rw [← Int.pow_add, ← Nat.two_mul] at v2'
      have k2 := hH.below b2 bl
      have q2 := hK.below b2 (by omega)
      have s2 := hR.below b2 (by omega)
      obtain ⟨y0, y1, y2, y3, y4, y5⟩ := k2.cells6
      obtain ⟨z0, z1, z2, z3, z4, z5⟩ := k2.free6
      have m4 := mut_set6 k2 h2
      have b4 := below_set6 (Below.up hbel (Nat.le_refl _) b2) (show w.heap.size ≤ b + 1 by omega) (.int .u64 (h2 0)) (.int .u64 (h2 1)) (.int .u64 (h2 2)) (.int .u64 (h2 3)) (.int .u64 (h2 4)) (.int .u64 (h2 5))
      have q4 := mut_not6 q2 (show b ≠ b + 1 by omega) (.int .u64 (h2 0)) (.int .u64 (h2 1)) (.int .u64 (h2 2)) (.int .u64 (h2 3)) (.int .u64 (h2 4)) (.int .u64 (h2 5))
      have s4 := mut_not6 s2 (show w.heap.size + 1 ≠ b + 1 by omega) (.int .u64 (h2 0)) (.int .u64 (h2 1)) (.int .u64 (h2 2)) (.int .u64 (h2 3)) (.int .u64 (h2 4)) (.int .u64 (h2 5))
      have M4 : Hid _ := m4
      have B4 : Hid _ := b4
      have Q4 : Hid _ := q4
      have S4 : Hid _ := s4
      have R2 : Hid _ := r2
      have V2 : Hid _ := v2'
      have hb1 := (N0 j (by omega)).out
      have hh := nat_half E j
      have RK : Hid _ := rk
      have VK : Hid _ := vk
      clear k2 q2 s2 m4 b4 q4 s4 r2 l2 v2 v2' M1 x0 x1 x2 x3 x4 x5 b2 hbel hR hK hH rh vh rk vk bl
      go_wp2_with fail
      generalize (((((w2.setCell ⟨b + 1, 0, none⟩ (.int .u64 (h2 0))).setCell ⟨b + 1, 1, none⟩ (.int .u64 (h2 1))).setCell ⟨b + 1, 2, none⟩ (.int .u64 (h2 2))).setCell ⟨b + 1, 3, none⟩ (.int .u64 (h2 3))).setCell ⟨b + 1, 4, none⟩ (.int .u64 (h2 4))).setCell ⟨b + 1, 5, none⟩ (.int .u64 (h2 5)) = W4 at *
      have KB : Hid _ := bitAt_any p n c g j W4 (by omega) (by omega) (AtK.below HE.out B4.out) HRG.out
      rw [hb1] at KB
      clear hb1 y0 y1 y2 y3 y4 y5 z0 z1 z2 z3 z4 z5
      rcases (show E / 2 ^ j % 2 = 0 ∨ E / 2 ^ j % 2 = 1 by omega) with h0 | h1
      · rw [h0] at KB
        have VF : Hid (val h2 6 = val f 6 ^ (E / 2 ^ j) * pw 6 % RI) := by
          show _ = _
          have e : E / 2 ^ j = 2 * (E / 2 ^ (j + 1)) := by rw [h0] at hh; exact hh
          rw [V2.out, e]
        clear hh h0
        refine Calls.mono KB.out ?_
        rintro e w5 ⟨rfl, rfl⟩
        go_wp2
        go_step3
        refine Or.inr ⟨rfl, ⟨j, b, k, h2, _, _, _, _, _, _, _, _, _, _, _, _, _, _, _, _, _, _, _, _, _, _, _, _, _, _, _, _, _, _, _, _, _, _, rfl, trivial, by omega, hb, B4.out, S4.out, Q4.out, RK.out, VK.out, M4.out, R2.out, VF.out⟩, ?_⟩
        simp [slot, intOf]
      · rw [h1] at KB
        have VF : Hid (∀ x, 0 ≤ x → x < RI → x * pw 6 % RI = val h2 6 * val k 6 % RI → x = val f 6 ^ (E / 2 ^ j) * pw 6 % RI) := fun x x0 x1 hx => by
          have e := times_num hx V2.out VK.out x0 x1
          rw [← Int.pow_succ] at e
          rw [hh, h1]; exact e
        clear hh h1
        refine Calls.mono KB.out ?_
        rintro e w5 ⟨rfl, rfl⟩
        obtain ⟨x0, x1, x2, x3, x4, x5⟩ := MutK.cells6 M4.out
        obtain ⟨a0, a1, a2, a3, a4, a5⟩ := MutK.cells6 Q4.out
        have M2 : Hid _ := fun w => times_any h2 k w R2.out RK.out (by rw [VK.out]; exact modR_lt _)
        have bl : b + 1 < w5.heap.size := cell_lt x0
        have BL : Hid _ := bl
        clear bl
        go_wp2_with fail
        refine Calls.mono (M2.out _) ?_
        rintro e w6 ⟨h6, rfl, r6, l6, v6, b6⟩
        have k6 := MutK.below M4.out b6 BL.out
        have q6 := MutK.below Q4.out b6 (by have := BL.out; omega)
        have s6 := MutK.below S4.out b6 (by have := BL.out; omega)
        obtain ⟨y0, y1, y2, y3, y4, y5⟩ := k6.cells6
        obtain ⟨z0, z1, z2, z3, z4, z5⟩ := k6.free6
        have M6 : Hid _ := mut_set6 k6 h6
        have B6 : Hid _ := below_set6 (Below.up B4.out (Nat.le_refl _) b6) (show w.heap.size ≤ b + 1 by omega) (.int .u64 (h6 0)) (.int .u64 (h6 1)) (.int .u64 (h6 2)) (.int .u64 (h6 3)) (.int .u64 (h6 4)) (.int .u64 (h6 5))
        have Q6 : Hid _ := mut_not6 q6 (show b ≠ b + 1 by omega) (.int .u64 (h6 0)) (.int .u64 (h6 1)) (.int .u64 (h6 2)) (.int .u64 (h6 3)) (.int .u64 (h6 4)) (.int .u64 (h6 5))
        have S6 : Hid _ := mut_not6 s6 (show w.heap.size + 1 ≠ b + 1 by omega) (.int .u64 (h6 0)) (.int .u64 (h6 1)) (.int .u64 (h6 2)) (.int .u64 (h6 3)) (.int .u64 (h6 4)) (.int .u64 (h6 5))
        have R6 : Hid _ := r6
        have V6 : Hid _ := VF.out _ (val_bd r6).1 l6 v6
        clear k6 q6 s6 r6 l6 v6 b6 M2 x0 x1 x2 x3 x4 x5 a0 a1 a2 a3 a4 a5 M4 B4 Q4 S4 BL
        go_wp2
        go_step3
        refine Or.inr ⟨rfl, ⟨j, b, k, h6, _, _, _, _, _, _, _, _, _, _, _, _, _, _, _, _, _, _, _, _, _, _, _, _, _, _, _, _, _, _, _, _, _, _, rfl, trivial, by omega, hb, B6.out, S6.out, Q6.out, RK.out, VK.out, M6.out, R6.out, V6.out⟩, ?_⟩
        simp [slot, intOf]
  · clear hF hR B1 z1 hgl KL KO hg NT rf
    rintro hr a' W ⟨L, b, k, h, u8, u9, u10, u11, u12, u13, u14, u15, u16, u17, u18, u19, u20, u21, u22, u23, u24, u25, u26, u27, u28, u29, u30, u31, u32, u33, u34, u35, u36, u37, u38, u39, u40, u41, rfl, hz, hL, hb, hbel, hR, hK, rk, vk, hH, rh, vh⟩
    have J : Hid _ := And.intro hb (And.intro hbel (And.intro hR (And.intro hK (And.intro rk (And.intro vk (And.intro hH (And.intro rh vh)))))))
    have JB := hbel
    clear hb hR hK rk vk hH rh vh hbel
    cases L with
    | zero =>
      clear JB
      go_wp2
      go_step3
      rename_i K hK
      exact hK _ _ (hr _ _ _ ⟨0, b, k, h, _, _, _, _, _, _, _, _, _, _, _, _, _, _, _, _, _, _, _, _, _, _, _, _, _, _, _, _, _, _, _, _, _, _, rfl, trivial, by omega, J.out.1, J.out.2.1, J.out.2.2.1, J.out.2.2.2.1, J.out.2.2.2.2.1, J.out.2.2.2.2.2.1, J.out.2.2.2.2.2.2.1, J.out.2.2.2.2.2.2.2.1, J.out.2.2.2.2.2.2.2.2⟩)
    | succ j =>
      have KB : Hid _ := bitAt_any p n c g j W (by omega) (by omega) (AtK.below HE.out JB) HRG.out
      rw [(N0 j (by omega)).out] at KB
      have hh := nat_half E j
      clear JB
      rcases (show E / 2 ^ j % 2 = 0 ∨ E / 2 ^ j % 2 = 1 by omega) with h0 | h1
      · rw [h0] at KB
        have e1 : E / 2 ^ j = 0 := by rw [h0, hz] at hh; exact hh
        have e2 : val f 6 ^ (E / 2 ^ (j + 1)) = val f 6 ^ (E / 2 ^ j) := by rw [hz, e1]
        have E1 : Hid _ := e1
        have E2 : Hid _ := e2
        clear hh h0 hz e1 e2
        go_wp2_with (go_at_call 54; refine Calls.mono KB.out ?_; rintro e w5 ⟨rfl, rfl⟩)
        go_step3
        refine Or.inl ⟨rfl, ⟨j, b, k, h, _, _, _, _, _, _, _, _, _, _, _, _, _, _, _, _, _, _, _, _, _, _, _, _, _, _, _, _, _, _, _, _, _, _, rfl, E1.out, by omega, J.out.1, J.out.2.1, J.out.2.2.1, J.out.2.2.2.1, J.out.2.2.2.2.1, J.out.2.2.2.2.2.1, J.out.2.2.2.2.2.2.1, J.out.2.2.2.2.2.2.2.1, by rw [← E2.out]; exact J.out.2.2.2.2.2.2.2.2⟩, ?_⟩
        simp [slot, intOf]
      · rw [h1] at KB
        clear hh h1 hz
        go_wp2_with (go_at_call 54; refine Calls.mono KB.out ?_; rintro e w5 ⟨rfl, rfl⟩)
        go_step3
        rename_i K hK
        exact hK _ _ (hr _ _ _ ⟨j + 1, b, k, h, _, _, _, _, _, _, _, _, _, _, _, _, _, _, _, _, _, _, _, _, _, _, _, _, _, _, _, _, _, _, _, _, _, _, rfl, trivial, by omega, J.out.1, J.out.2.1, J.out.2.2.1, J.out.2.2.2.1, J.out.2.2.2.2.1, J.out.2.2.2.2.2.1, J.out.2.2.2.2.2.2.1, J.out.2.2.2.2.2.2.2.1, J.out.2.2.2.2.2.2.2.2⟩)
  · intro hr
    go_wp2_with fail
    generalize (w.alloc (.cells #[.int .u64 (f 0), .int .u64 (f 1), .int .u64 (f 2), .int .u64 (f 3), .int .u64 (f 4), .int .u64 (f 5)] 24)).alloc (.cells #[.int .u64 0, .int .u64 0, .int .u64 0, .int .u64 0, .int .u64 0, .int .u64 0] 24) = W at *
    refine Calls.mono (KL.out f _ hgl rf) ?_
    rintro e w1 ⟨h1, rfl, r1, v1, b1⟩
    go_wp2_with fail
    refine Calls.mono (KO.out _) ?_
    rintro e w2 ⟨h2, rfl, r2, v2, b2⟩
    go_wp2_with fail
    refine Calls.mono (KL.out h2 _ ((hgl.stay b1).stay b2) r2) ?_
    rintro e w3 ⟨h3, rfl, r3, v3, b3⟩
    have b4 := Below.up (Below.up b1 (Nat.le_refl _) b2) (Nat.le_refl _) b3
    have m1 := mut_four w3 h1 24
    have m1' := m1.below (below_one (w3.alloc (.cells #[.int .u64 (h1 0), .int .u64 (h1 1), .int .u64 (h1 2), .int .u64 (h1 3), .int .u64 (h1 4), .int .u64 (h1 5)] 24)) (.cells #[.int .u64 (h3 0), .int .u64 (h3 1), .int .u64 (h3 2), .int .u64 (h3 3), .int .u64 (h3 4), .int .u64 (h3 5)] 24)) (by rw [World.size_alloc]; omega)
    have m3 := mut_four (w3.alloc (.cells #[.int .u64 (h1 0), .int .u64 (h1 1), .int .u64 (h1 2), .int .u64 (h1 3), .int .u64 (h1 4), .int .u64 (h1 5)] 24)) h3 24
    rw [World.size_alloc] at m3
    have c4 := Below.up b4 (Nat.le_refl _) (below_two w3 (.cells #[.int .u64 (h1 0), .int .u64 (h1 1), .int .u64 (h1 2), .int .u64 (h1 3), .int .u64 (h1 4), .int .u64 (h1 5)] 24) (.cells #[.int .u64 (h3 0), .int .u64 (h3 1), .int .u64 (h3 2), .int .u64 (h3 3), .int .u64 (h3 4), .int .u64 (h3 5)] 24))
    have hR' := hR.below c4 (by rw [z1]; omega)
    have c5 := Below.up B1 (Nat.le_refl _) c4
    have lb : w.heap.size + 2 ≤ w3.heap.size := by have := b4.size; omega
    have V3 : Hid (val h3 6 = val f 6 ^ (E / 2 ^ (64 * n)) * pw 6 % RI) := by
      show _ = _
      rw [v3, v2, NT.out, Int.pow_zero]
    have HJ : Hid _ := And.intro c5 (And.intro hR' (And.intro m1' (And.intro r1 (And.intro v1 (And.intro m3 r3)))))
    clear b1 b2 b3 b4 m1 m1' m3 c4 c5 hR hR' v1 v2 v3 r1 r2 r3 B1 hF
    go_wp2_with fail
    go_step3
    rename_i K hK
    exact hK _ _ (hr _ _ ⟨64 * n, w3.heap.size, h1, h3, _, _, _, _, _, _, _, _, _, _, _, _, _, _, _, _, _, _, _, _, _, _, _, _, _, _, _, _, _, _, _, _, _, _, by first | rfl | (congr 1), NT.out, Nat.le_refl _, lb, HJ.out.1, HJ.out.2.1, HJ.out.2.2.1, HJ.out.2.2.2.1, HJ.out.2.2.2.2.1, HJ.out.2.2.2.2.2.1, HJ.out.2.2.2.2.2.2, V3.out⟩)
end Go.Proofs.YtgdmjngajjoliaaDoor.fpn
