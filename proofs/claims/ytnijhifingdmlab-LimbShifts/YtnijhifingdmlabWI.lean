/- What the statements' own helpers same and begun answer. -/
import Derived.Test.YtnijhifingdmlabWG
import Derived.Laws.BytesArg
namespace Go.Proofs.Ytnijhifingdmlab
open Go.RowKit

theorem below_draws {B : Nat} {a w : World} (h : Below B a w) (n : Nat) : Below B a (w.drewN n) := h.trans ⟨rfl, rfl, rfl, Nat.le_refl _, fun _ _ => rfl⟩


/-- A number of one limb. -/
def one (x : Int) : Nat → Int := fun i => if i = 0 then x else 0
theorem one_rg {x : Int} (h : 0 ≤ x ∧ x < B64) (n : Nat) : Rg (one x) n := fun i _ => by
  unfold one; split
  · exact h
  · exact ⟨Int.le_refl _, B64_pos⟩
theorem val_one (x : Int) : val (one x) 1 = x := by simp [val, pw, one]
theorem nm_one {x : Int} (h : x ≠ 0) : Nm (one x) 1 := Or.inr (by simpa [one] using h)
theorem one_of {h : Nat → Int} {n : Nat} {x : Int} (hr : Rg h n) (hn : Nm h n) (hv : val h n = x) (hx : 0 < x ∧ x < B64) : n = 1 ∧ h 0 = x := by
  have := uniq hr (one_rg ⟨by omega, hx.2⟩ 1) hn (nm_one (by omega)) (by rw [hv, val_one])
  refine ⟨this.1, ?_⟩
  rw [this.2 0 (by omega)]; rfl
theorem two_of {h : Nat → Int} {n : Nat} (hr : Rg h n) (hn : Nm h n) (hv : val h n = B64) : n = 2 := by
  refine (uniq hr (g := fun i => if i = 1 then 1 else 0) (m := 2) (fun i _ => ?_) hn (Or.inr (by simp)) ?_).1
  · dsimp only; split
    · exact ⟨by decide, by rw [B64_eq]; decide⟩
    · exact ⟨Int.le_refl _, B64_pos⟩
  · rw [hv]; simp [val, pw]

theorem at_one (w : World) (x : Int) (t : TypeId) : At (w.alloc (.cells #[.int .u64 x] t)) (some ⟨w.heap.size, 0, none⟩) 1 (one x) := fun _ => ⟨w.heap.size, 0, rfl, fun j hj => by
  have e : j = 0 := by omega
  subst e
  simp [one]⟩

theorem at_next {w : World} {x : Int} {t : TypeId} {o : Obj} : At ((w.alloc o).alloc (.cells #[.int .u64 x] t)) (some ⟨w.heap.size + 1, 0, none⟩) 1 (one x) := by
  have := at_one (w.alloc o) x t
  rwa [World.size_alloc] at this
theorem at_prev {w : World} {x : Int} {t : TypeId} {o : Obj} : At ((w.alloc (.cells #[.int .u64 x] t)).alloc o) (some ⟨w.heap.size, 0, none⟩) 1 (one x) :=
  (at_one w x t).below ((Below.refl _ _).alloc (Nat.le_refl _) _)
theorem below_one (w : World) (o : Obj) : Below w.heap.size w (w.alloc o) := (Below.refl _ _).alloc (Nat.le_refl _) _
theorem below_two (w : World) (o o' : Obj) : Below w.heap.size w ((w.alloc o).alloc o') := (below_one w o).alloc (by rw [World.size_alloc]; omega) _
theorem Below.up {B : Nat} {w x y : World} (h : Below B w x) (hB : B ≤ w.heap.size) (k : Below x.heap.size x y) : Below B w y := h.trans (k.mono (Nat.le_trans hB h.size))

theorem begun_any (w : World) : Calls Try.prog 4 #[] w fun e w' => e = .returned (.bool true) ∧ Below w.heap.size w w' := by
  have R7 : (0 : Int) ≤ 7 ∧ 7 < B64 := ⟨by decide, by rw [B64_eq]; decide⟩
  have R4 : (0 : Int) ≤ 4 ∧ 4 < B64 := ⟨by decide, by rw [B64_eq]; decide⟩
  have R258 : (0 : Int) ≤ 258 ∧ 258 < B64 := ⟨by decide, by rw [B64_eq]; decide⟩
  have H1 : Hid _ := rest_any (some ⟨w.heap.size, 0, none⟩) (some ⟨w.heap.size + 1, 0, none⟩) 1 1 1 1 (one 7) (one 4) _ (Nat.le_refl _) (by decide) (Nat.le_refl _) (by decide) (at_prev (w := w) (t := 24) (o := .cells #[.int .u64 4] 24)) at_next (one_rg R7 1) (one_rg R4 1) (by decide) (by decide) (by rw [val_one]; decide)
  have B1 := below_two w (.cells #[.int .u64 7] 24) (.cells #[.int .u64 4] 24)
  go_enter Try.func4, Try.ntmps4
  go_wp2_with fail
  refine Calls.mono H1.out ?_
  rintro e w2 ⟨v, rfl, hB2, b, off, n, c, h, rfl, -, hb2, -, -, hm, hr, hnm, hv⟩
  obtain ⟨rfl, h0⟩ := one_of hr hnm (hv.trans (show val (one 7) 1 % val (one 4) 1 = 3 by rw [val_one, val_one]; decide)) ⟨by decide, by rw [B64_eq]; decide⟩
  have c2 : w2.cell? ⟨b, off, none⟩ = some (.int .u64 3) := by rw [← h0]; exact (hm 0 (by omega)).1
  have B2 := Below.up B1 (Nat.le_refl _) hB2
  clear hm hr hnm hv h0 hB2 B1 H1
  have H2 := put_any (some ⟨w2.heap.size, 0, none⟩) 1 1 2 (one 258) _ (Nat.le_refl _) (by decide) (at_one w2 258 24) (one_rg R258 1) (by decide) (by decide +kernel) (by decide)
  have B3 := Below.up B2 (Nat.le_refl _) (below_one w2 (.cells #[.int .u64 258] 24))
  have c3 : (w2.alloc (.cells #[.int .u64 258] 24)).cell? ⟨b, off, none⟩ = some (.int .u64 3) := ((below_one w2 _).cell (p := ⟨b, off, none⟩) hb2).trans c2
  have l3 : b < (w2.alloc (.cells #[.int .u64 258] 24)).heap.size := by rw [World.size_alloc]; omega
  have H2' : Hid _ := H2
  clear H2 c2 B2
  go_wp2_with fail
  generalize hW3 : w2.alloc (.cells #[.int .u64 258] 24) = w3 at *
  refine Calls.mono H2'.out ?_
  rintro e w4 ⟨rfl, hB4, -, hm4⟩
  have d0 : w4.cell? ⟨w3.heap.size, 0, none⟩ = some (.int .u8 1) := (hm4 0 (by omega)).1
  have d1 : w4.cell? ⟨w3.heap.size, 1, none⟩ = some (.int .u8 2) := (hm4 1 (by omega)).1
  have c4 : w4.cell? ⟨b, off, none⟩ = some (.int .u64 3) := (hB4.cell (p := ⟨b, off, none⟩) l3).trans c3
  have B4 := Below.up B3 (Nat.le_refl _) hB4
  clear hm4 hB4 B3 c3 l3 H2' hW3 hb2
  generalize w3.heap.size = s3 at *
  have hconv : (convert 31 9 (.slice (some ⟨s3, 0, none⟩) 2 2)).run Try.prog w4 = .ok (.string ⟨#[1, 2]⟩) w4 :=
    run_convert_bytes_arg w4 31 5 Try.underlying31 Try.underlying5 s3 0 2 2 [1, 2] rfl (fun i hi => by
      rcases (show i = 0 ∨ i = 1 by omega) with rfl | rfl
      · exact d0
      · exact d1) 9 Try.underlying9
  clear d0 d1
  have R1 : (0 : Int) ≤ 1 ∧ 1 < B64 := ⟨by decide, by rw [B64_eq]; decide⟩
  have R2 : (0 : Int) ≤ 2 ∧ 2 < B64 := ⟨by decide, by rw [B64_eq]; decide⟩
  have R63 : (0 : Int) ≤ 9223372036854775808 ∧ 9223372036854775808 < B64 := ⟨by decide, by rw [B64_eq]; decide⟩
  have H3 : Hid _ := add_any (some ⟨w4.heap.size, 0, none⟩) none 1 0 1 0 (one 1) Z _ (Nat.le_refl _) (by decide) (Nat.le_refl _) (by decide) (at_one w4 1 24) AtK.nil (one_rg R1 1) (fun i hi => absurd hi (by omega)) (by decide) (by decide)
  have B5 := Below.up B4 (Nat.le_refl _) (below_one w4 (.cells #[.int .u64 1] 24))
  have r1 : Hid _ := R1
  have r2 : Hid _ := R2
  have r63 : Hid _ := R63
  clear R1 R2 R63 R7 R4 R258
  go_wp2_with fail
  refine Calls.mono H3.out ?_
  rintro e w5 ⟨v, rfl, hB5, b5, off5, n5, c5, h5, rfl, -, -, -, -, hm5, hr5, hn5, hv5⟩
  obtain ⟨rfl, -⟩ := one_of hr5 hn5 (hv5.trans (show val (one 1) 1 + val Z 0 = 1 by rw [val_one]; decide)) ⟨by decide, by rw [B64_eq]; decide⟩
  have B6 := Below.up B5 (Nat.le_refl _) hB5
  clear hm5 hr5 hn5 hv5 hB5 B5 B4 hconv c4 H3
  have H4 : Hid _ := mul_any (some ⟨w5.heap.size, 0, none⟩) (some ⟨w5.heap.size + 1, 0, none⟩) 1 1 1 1 (one 9223372036854775808) (one 2) _ (Nat.le_refl _) (by decide) (Nat.le_refl _) (by decide) (at_prev (w := w5) (t := 24) (o := .cells #[.int .u64 2] 24)) at_next (one_rg r63.out 1) (one_rg r2.out 1) (by decide) (by decide)
  have B7 := Below.up B6 (Nat.le_refl _) (below_two w5 (.cells #[.int .u64 9223372036854775808] 24) (.cells #[.int .u64 2] 24))
  go_wp2_with fail
  refine Calls.mono H4.out ?_
  rintro e w6 ⟨v, rfl, hB6, b6, off6, n6, c6, h6, rfl, -, -, -, -, hm6, hr6, hn6, hv6⟩
  have e6 := two_of hr6 hn6 (hv6.trans (by rw [val_one, val_one, B64_eq]; decide))
  subst e6
  have B8 := Below.up B7 (Nat.le_refl _) hB6
  clear hm6 hr6 hn6 hv6 hB6 B7 B6 H4
  have H5 := compare_any (some ⟨w6.heap.size, 0, none⟩) none 1 0 1 0 (one 1) Z _ (Nat.le_refl _) (by decide) (Nat.le_refl _) (by decide) (at_one w6 1 24) AtK.nil (one_rg r1.out 1) (fun i hi => absurd hi (by omega))
  rw [show ord (val (one 1) 1) (val Z 0) = 1 from ord_gt (by rw [val_one]; decide)] at H5
  have H5' : Hid _ := H5
  have B9 := Below.up B8 (Nat.le_refl _) (below_one w6 (.cells #[.int .u64 1] 24))
  clear H5 B8
  go_wp2_with fail
  refine Calls.mono H5'.out ?_
  rintro e w7 ⟨rfl, q, rfl⟩
  go_wp2
  go_ret
  exact ⟨rfl, below_draws B9 q⟩
end Go.Proofs.Ytnijhifingdmlab
