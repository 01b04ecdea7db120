/- Package math's Abs, Signbit, Trunc, Floor of floats that stand for whole numbers; package gauss's parts made tidy. -/
import Derived.Test.YtgkpcjopedleeaaGH
import Derived.Test.YtgkpcjopedleeaaGW
import Derived.Laws.BitsAllLaws
namespace Go.Proofs.Ytgkpcjopedleeaa
open Go.RowKit
set_option linter.unusedVariables false

theorem run_bits (x : Nat) (w : World) : Sem.run Try.prog (callFunc 27 #[.float .f64 x]) w = .ok (.value (.int .u64 x)) w := by
  rw [run_callFunc_extern Try.func27 (by kernel_rfl) (by kernel_rfl) (by kernel_rfl) (e := Extern.MathFloatBits.float64bits) (by kernel_rfl)]
  rfl
theorem run_from (x : Int) (w : World) : Sem.run Try.prog (callFunc 26 #[.int .u64 x]) w = .ok (.value (.float .f64 x.toNat)) w := by
  rw [run_callFunc_extern Try.func26 (by kernel_rfl) (by kernel_rfl) (by kernel_rfl) (e := Extern.MathFloatBits.float64frombits) (by kernel_rfl)]
  rfl
theorem toIntegral_number {nm : String} {way : Ieee.Toward} {x : Nat} {s : Bool} {K : Nat} {l : Int} (h : Ieee.double.read x = .number s K l) : Extern.MathFloor.toIntegral nm way #[.float .f64 x] = pure (.float .f64 (Ieee.double.write ((Ieee.Datum.number s K l).integral way))) := by
  have h' : FloatKind.f64.decode x = .number s K l := h
  unfold Extern.MathFloor.toIntegral
  show _ = pure (Value.float FloatKind.f64 (FloatKind.f64.encode ((Ieee.Datum.number s K l).integral way)))
  revert h'
  generalize FloatKind.f64.decode = dec
  intro h'
  conv => lhs; whnf
  rw [h']
theorem run_floor {x : Nat} {s : Bool} {K : Nat} {l : Int} (h : Ieee.double.read x = .number s K l) (w : World) : Sem.run Try.prog (callFunc 32 #[.float .f64 x]) w = .ok (.value (.float .f64 (Ieee.double.write ((Ieee.Datum.number s K l).integral .down)))) w := by
  rw [run_callFunc_extern Try.func32 (by kernel_rfl) (by kernel_rfl) (by kernel_rfl) (e := Extern.MathFloor.toIntegral "math.archFloor" .down) (by kernel_rfl), toIntegral_number h]
  rfl
theorem run_trunc {x : Nat} {s : Bool} {K : Nat} {l : Int} (h : Ieee.double.read x = .number s K l) (w : World) : Sem.run Try.prog (callFunc 34 #[.float .f64 x]) w = .ok (.value (.float .f64 (Ieee.double.write ((Ieee.Datum.number s K l).integral .zero)))) w := by
  rw [run_callFunc_extern Try.func34 (by kernel_rfl) (by kernel_rfl) (by kernel_rfl) (e := Extern.MathFloor.toIntegral "math.archTrunc" .zero) (by kernel_rfl), toIntegral_number h]
  rfl

theorem strip (u : Nat) (h : u < 2 ^ 64) : bits .andNot .u64 (u : Int) 9223372036854775808 = ((u % 2 ^ 63 : Nat) : Int) := by
  have := u64_andNot_nat u 9223372036854775808 (by omega) (by decide)
  rw [show ((9223372036854775808 : Nat) : Int) = 9223372036854775808 from rfl] at this
  rw [this]
  congr 1
  rw [show (18446744073709551615 - 9223372036854775808 : Nat) = 2 ^ 63 - 1 from rfl]
  exact Nat.and_two_pow_sub_one_eq_mod u 63

/-- |x|. -/
theorem abs_any {u : Nat} {x : Int} (hu : IsF u x) (w : World) : Calls Try.prog 20 #[.float .f64 u] w fun e w' => e = .returned (.float .f64 (fi x.natAbs)) ∧ w' = w := by
  obtain ⟨s, a, rfl, rfl, ha⟩ := hu
  obtain ⟨h1, h2, -⟩ := fw_lt s a ha
  have e1 := strip (fw s a) h1
  rw [h2] at e1
  have e2 : fi ((sg s a).natAbs : Int) = fw false a := by
    unfold fi
    rw [sg_abs, decide_eq_false (by omega)]
    rfl
  have r1 := fun w => run_bits (fw s a) w
  have r2 := fun w => run_from ((fw false a : Nat) : Int) w
  rw [e2]
  generalize fw s a = U at *
  generalize fw false a = V at *
  clear h1 h2 e2 ha
  go_enter Try.func20, Try.ntmps20
  go_wp2
  go_ret
  exact ⟨rfl, rfl⟩

theorem sign_zero (w : World) : Calls Try.prog 30 #[.float .f64 0] w fun e w' => e = .returned (.bool false) ∧ w' = w := by
  have r1 := fun w => run_bits 0 w
  go_enter Try.func30, Try.ntmps30
  go_wp2
  go_ret
  exact ⟨rfl, rfl⟩

theorem trunc_any {u : Nat} {x : Int} (hu : IsF u x) (w : World) : Calls Try.prog 31 #[.float .f64 u] w fun e w' => e = .returned (.float .f64 u) ∧ w' = w := by
  obtain ⟨s, a, rfl, rfl, ha⟩ := hu
  obtain ⟨K, l, h1, h2⟩ := trunc_whole s a ha
  have r := fun w => run_trunc h1 w
  rw [h2] at r
  generalize fw s a = U at *
  clear h1 h2 ha
  go_enter Try.func31, Try.ntmps31
  go_wp2
  go_ret
  exact ⟨rfl, rfl⟩

theorem floor_any {u v : Nat} (h : ∃ s K l, Ieee.double.read u = .number s K l ∧ Ieee.double.write ((Ieee.Datum.number s K l).integral .down) = v) (w : World) : Calls Try.prog 29 #[.float .f64 u] w fun e w' => e = .returned (.float .f64 v) ∧ w' = w := by
  obtain ⟨s, K, l, h1, h2⟩ := h
  have r := fun w => run_floor h1 w
  rw [h2] at r
  clear h1 h2
  go_enter Try.func29, Try.ntmps29
  go_wp2
  go_ret
  exact ⟨rfl, rfl⟩

theorem eqz' {u : Nat} {x : Int} (hu : IsF u x) : (FloatKind.f64.format.order u 0 == some .eq) = decide (x = 0) := by
  have := IsF.eq hu (IsF.fi (x := 0) (by decide))
  rw [fi0] at this
  exact this

theorem tidyPart_any {u : Nat} {x : Int} (hu : IsF u x) (w : World) : Calls Try.prog 28 #[.float .f64 u] w fun e w' => e = .returned (.float .f64 (fi x)) ∧ w' = w := by
  have e1 := eqz' hu
  by_cases h0 : x = 0
  · subst h0
    rw [decide_eq_true rfl] at e1
    rw [fi0]
    clear hu
    go_enter Try.func28, Try.ntmps28
    go_wp2
    go_ret
    exact ⟨rfl, rfl⟩
  · rw [decide_eq_false h0] at e1
    rw [← hu.one h0]
    clear hu h0
    go_enter Try.func28, Try.ntmps28
    go_wp2
    go_ret
    exact ⟨rfl, rfl⟩

theorem tidy_any {u v : Nat} {x y : Int} (hu : IsF u x) (hv : IsF v y) (w : World) : Calls Try.prog 21 #[.complex .f64 u v] w fun e w' => e = .returned (.complex .f64 (fi x) (fi y)) ∧ w' = w := by
  have H1 : Hid (∀ w, _) := fun w => tidyPart_any hu w
  have H2 : Hid (∀ w, _) := fun w => tidyPart_any hv w
  clear hu hv
  go_enter Try.func21, Try.ntmps21
  go_wp2_with fail
  refine Calls.mono (H1.out _) ?_
  rintro e w1 ⟨rfl, rfl⟩
  go_wp2_with fail
  refine Calls.mono (H2.out _) ?_
  rintro e w1 ⟨rfl, rfl⟩
  go_wp2
  go_ret
  exact ⟨rfl, rfl⟩
end Go.Proofs.Ytgkpcjopedleeaa
