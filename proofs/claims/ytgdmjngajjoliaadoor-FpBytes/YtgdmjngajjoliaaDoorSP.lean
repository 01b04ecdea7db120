/- Bytes that a scalar is put into, as a number; string(b) of bytes. -/
import Derived.Test.YtgdmjngajjoliaaDoorSC
namespace Go.Proofs.YtgdmjngajjoliaaDoor.fpn
open Go.RowKit
set_option linter.unusedVariables false

theorem v8_mod (x : Int) (k : Nat) : v8 (fun t => x / 2 ^ (8 * t) % 256) k = x % 2 ^ (8 * k) := by
  induction k with
  | zero => simp [v8]
  | succ k ih =>
    rw [v8, ih, show 8 * (k + 1) = 8 * k + 8 by omega, Int.pow_add]
    have p : (0 : Int) < 2 ^ (8 * k) := Int.pow_pos (by decide)
    show _ = x % (2 ^ (8 * k) * 256)
    generalize (2 : Int) ^ (8 * k) = P at *
    have e1 := Int.emod_add_mul_ediv x P
    have e2 := Int.emod_add_mul_ediv (x / P) 256
    have e3 : x / (P * 256) = x / P / 256 := (Int.ediv_ediv_of_nonneg (Int.le_of_lt p)).symm
    have e4 := Int.emod_add_mul_ediv x (P * 256)
    rw [e3] at e4
    generalize x / P / 256 = d at *
    generalize x / P % 256 = c at *
    generalize x / P = b at *
    generalize x % P = a at *
    generalize x % (P * 256) = z at *
    grind

theorem pl_put {f : Nat → Int} {m n q : Nat} (rf : Rg f m) (hq : 8 * q + 8 ≤ n) : pl (fun j => byt f m (n - 1 - j)) n n q = lm f m q := by
  have r := lm_rg rf (q + 1) q (by omega)
  unfold pl
  rw [show min 8 (n - 8 * q) = 8 by omega]
  have e : v8 (fun t => byt f m (n - 1 - (n - 1 - (8 * q + t)))) 8 = v8 (fun t => lm f m q / 2 ^ (8 * t) % 256) 8 := by
    have g : ∀ k, k ≤ 8 → v8 (fun t => byt f m (n - 1 - (n - 1 - (8 * q + t)))) k = v8 (fun t => lm f m q / 2 ^ (8 * t) % 256) k := by
      intro k hk
      induction k with
      | zero => rfl
      | succ k ih =>
        rw [v8, v8, ih (by omega)]
        congr 2
        show byt f m _ = _
        rw [show n - 1 - (n - 1 - (8 * q + k)) = 8 * q + k by omega]
        unfold byt
        rw [show (8 * q + k) / 8 = q by omega, show (8 * q + k) % 8 = k by omega]
    exact g 8 (by omega)
  rw [e, v8_mod]
  rw [B64_eq] at r
  exact Int.emod_eq_of_lt r.1 r.2

theorem byt_rg (f : Nat → Int) (n i : Nat) : 0 ≤ byt f n i ∧ byt f n i < 256 := by unfold byt; omega

theorem bv_put {f : Nat → Int} (rf : Rg f 6) : bv (fun j => byt f 6 (48 - 1 - j)) 48 = val f 6 := by
  rw [← pl_bv]
  exact val_congr fun q hq => by rw [pl_put rf (by omega), lm_in (show q < 6 from hq)]

/-- string(b) of bytes. -/
theorem str_at (w : World) (p : Option Addr) (n cap : Nat) (f : Nat → Int) (h : AtK .u8 w p n f) (h0 : 0 < n) :
    (convert 43 9 (.slice p n cap)).run Tryd.prog w = .ok (.string (strOfNums ((List.range n).map f))) w := by
  obtain ⟨b, off, rfl, hc⟩ := h h0
  exact run_convert_bytes_arg w 43 5 Tryd.underlying43 Tryd.underlying5 b off n cap ((List.range n).map f) (by simp) (fun i hi => by
    rw [hc i hi]
    simp [hi]) 9 Tryd.underlying9
end Go.Proofs.YtgdmjngajjoliaaDoor.fpn
