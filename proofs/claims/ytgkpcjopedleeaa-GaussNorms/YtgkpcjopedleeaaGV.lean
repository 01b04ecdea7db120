/- Package gauss as landed: Turn. -/
import Derived.Test.YtgkpcjopedleeaaGS
import Derived.Test.YtgkpcjopedleeaaGC
import Derived.Deep.DrawnRows
namespace Go.Proofs.Ytgkpcjopedleeaa
open Go.RowKit
attribute [local go_sem ↓] Go.wp_at_zero Go.wp_at_succ
attribute [local go_sem] run_store_complex
set_option linter.unusedVariables false

/-- A call that answers a complex number, all else as it was. -/
def Tells (f : FuncId) (args : Array Value) (p q : Nat) : Prop := ∀ w, Calls Try.prog f args w fun e w' => e = .returned (.complex .f64 p q) ∧ w' = w
/-- A difference. -/
def Less (p q r t x y : Nat) : Prop := ∀ (ty : TypeId) (w : World), (binOp .sub ty (.complex .f64 p q) (.complex .f64 r t)).run Try.prog w = .ok (.complex .f64 x y) w

set_option maxRecDepth 8000 in
set_option maxHeartbeats 1600000 in
theorem turn_go (back : Bool) (p0 q0 p1 q1 p2 q2 p3 q3 rt ep eq op oq x1 y1 ap aq x2 y2 tp tq a0 b0 a1 b1 x3 y3 a2 b2 x4 y4 a3 b3 : Nat) (w : World)
    (hr : rt = if back then 13830554455654793216 else 4607182418800017408)
    (A1 : Hid (Tells 14 #[.complex .f64 p0 q0, .complex .f64 p2 q2] ep eq)) (A2 : Hid (Tells 14 #[.complex .f64 p1 q1, .complex .f64 p3 q3] op oq))
    (R1 : Less p0 q0 p2 q2 x1 y1) (A3 : Hid (Tells 21 #[.complex .f64 x1 y1] ap aq))
    (R2 : Less p1 q1 p3 q3 x2 y2) (A4 : Hid (Tells 11 #[.complex .f64 x2 y2, .complex .f64 0 rt] tp tq))
    (A5 : Hid (Tells 14 #[.complex .f64 ep eq, .complex .f64 op oq] a0 b0)) (A6 : Hid (Tells 14 #[.complex .f64 ap aq, .complex .f64 tp tq] a1 b1))
    (R3 : Less ep eq op oq x3 y3) (A7 : Hid (Tells 21 #[.complex .f64 x3 y3] a2 b2))
    (R4 : Less ap aq tp tq x4 y4) (A8 : Hid (Tells 21 #[.complex .f64 x4 y4] a3 b3)) :
    Calls Try.prog 15 #[.agg #[.complex .f64 p0 q0, .complex .f64 p1 q1, .complex .f64 p2 q2, .complex .f64 p3 q3], .bool back] w fun e w' => e = .returned (.agg #[.complex .f64 a0 b0, .complex .f64 a1 b1, .complex .f64 a2 b2, .complex .f64 a3 b3]) ∧ Below w.heap.size w w' := by
  unfold Less at R1 R2 R3 R4
  unfold Tells at A1 A2 A3 A4 A5 A6 A7 A8
  obtain ⟨z1, bl1, f1⟩ := fours_new w (.complex .f64 p0 q0) (.complex .f64 p1 q1) (.complex .f64 p2 q2) (.complex .f64 p3 q3) 35 _ rfl
  obtain ⟨z2, bl2, f2⟩ := fours_new (w.alloc (.cells #[.complex .f64 p0 q0, .complex .f64 p1 q1, .complex .f64 p2 q2, .complex .f64 p3 q3] 35)) (.complex .f64 0 0) (.complex .f64 0 0) (.complex .f64 0 0) (.complex .f64 0 0) 35 _ rfl
  obtain ⟨⟨c0, -⟩, ⟨c1, -⟩, ⟨c2, -⟩, c3, -⟩ := f1.below bl2 (by rw [z1]; exact Nat.lt_succ_self _)
  rw [z1] at f2
  have HB : Hid _ := Below.up bl1 (Nat.le_refl _) bl2
  have HF : Hid _ := f2
  clear bl1 bl2 z1 z2 f1 f2
  rcases back with _ | _ <;> (simp only [Bool.false_eq_true, if_false, if_true] at hr; subst hr)
  all_goals
    go_enter Try.func15, Try.ntmps15
    go_wp2_with fail
    generalize (w.alloc (.cells #[.complex .f64 p0 q0, .complex .f64 p1 q1, .complex .f64 p2 q2, .complex .f64 p3 q3] 35)).alloc (.cells #[.complex .f64 0 0, .complex .f64 0 0, .complex .f64 0 0, .complex .f64 0 0] 35) = W at *
    have HC : Hid (∀ x : World, x = W.drew ∨ x = W.drew.drew → x.cell? ⟨w.heap.size, 0, none⟩ = some (.complex .f64 p0 q0) ∧ x.cell? ⟨w.heap.size, 1, none⟩ = some (.complex .f64 p1 q1) ∧ x.cell? ⟨w.heap.size, 2, none⟩ = some (.complex .f64 p2 q2) ∧ x.cell? ⟨w.heap.size, 3, none⟩ = some (.complex .f64 p3 q3)) := by rintro x (rfl | rfl) <;> exact ⟨c0, c1, c2, c3⟩
    clear c0 c1 c2 c3
    go_region_held3 (fun x => x.cell? ⟨w.heap.size, 0, none⟩ = some (.complex .f64 p0 q0) ∧ x.cell? ⟨w.heap.size, 1, none⟩ = some (.complex .f64 p1 q1) ∧ x.cell? ⟨w.heap.size, 2, none⟩ = some (.complex .f64 p2 q2) ∧ x.cell? ⟨w.heap.size, 3, none⟩ = some (.complex .f64 p3 q3))
      (exact HC.out _ (.inl rfl))
      (first
      | (go_at_call 14; refine Calls.mono (A1.out _) ?_; rintro e _ ⟨rfl, rfl⟩)
      | (go_at_call 14; refine Calls.mono (A2.out _) ?_; rintro e _ ⟨rfl, rfl⟩))
    all_goals
      go_wp2_with fail
      go_region_held3 (fun x => x.cell? ⟨w.heap.size, 0, none⟩ = some (.complex .f64 p0 q0) ∧ x.cell? ⟨w.heap.size, 1, none⟩ = some (.complex .f64 p1 q1) ∧ x.cell? ⟨w.heap.size, 2, none⟩ = some (.complex .f64 p2 q2) ∧ x.cell? ⟨w.heap.size, 3, none⟩ = some (.complex .f64 p3 q3))
        (exact HC.out _ (.inr rfl))
        (first
        | (go_at_call 21; refine Calls.mono (A3.out _) ?_; rintro e _ ⟨rfl, rfl⟩)
        | (go_at_call 11; refine Calls.mono (A4.out _) ?_; rintro e _ ⟨rfl, rfl⟩))
      all_goals
        go_wp2_with fail
        refine Calls.mono (A5.out _) ?_
        rintro e _ ⟨rfl, rfl⟩
        go_wp2_with fail
        refine Calls.mono (A6.out _) ?_
        rintro e _ ⟨rfl, rfl⟩
        go_wp2_with fail
        refine Calls.mono (A7.out _) ?_
        rintro e _ ⟨rfl, rfl⟩
        go_wp2_with fail
        refine Calls.mono (A8.out _) ?_
        rintro e _ ⟨rfl, rfl⟩
        obtain ⟨⟨d0, f0⟩, ⟨d1, f1⟩, ⟨d2, f2⟩, d3, f3⟩ := HF.out
        go_wp2_with fail
        refine bodyPost_ret (v := .agg #[.complex .f64 a0 b0, .complex .f64 a1 b1, .complex .f64 a2 b2, .complex .f64 a3 b3]) (by simp [results, Try.results15, go_sem, d0, d1, d2, d3]) rfl ⟨rfl, ?_⟩
        have BB := HB.out
        refine Below.drew (Below.drew ?_)
        exact (((BB.setCell (by simp) _).setCell (by simp) _).setCell (by simp) _).setCell (by simp) _

end Go.Proofs.Ytgkpcjopedleeaa
