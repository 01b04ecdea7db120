/- Plain mathematics: half limbs, and how a product is summed up half limb by half limb. -/
import Derived.Test.YtgdmjngajjoliaaDoorLim
namespace Go.Proofs.YtgdmjngajjoliaaDoor

/-- 2^32. -/
def H32 : Int := 4294967296
theorem H32_eq : H32 = 4294967296 := rfl
theorem H32_pos : 0 < H32 := by rw [H32_eq]; decide
def ph : Nat → Int
  | 0 => 1
  | n + 1 => ph n * H32
theorem ph_pos (n : Nat) : 0 < ph n := by
  induction n with
  | zero => decide
  | succ n ih => exact Int.mul_pos ih H32_pos
theorem ph_add (a b : Nat) : ph (a + b) = ph a * ph b := by
  induction b with
  | zero => simp [ph]
  | succ b ih => rw [Nat.add_succ, ph, ih, ph, Int.mul_assoc]
theorem ph_two (n : Nat) : ph (2 * n) = pw n := by
  induction n with
  | zero => rfl
  | succ n ih =>
    rw [show 2 * (n + 1) = 2 * n + 1 + 1 by omega, ph, ph, ih, pw, Int.mul_assoc]; rfl

/-- What the first n half limbs are worth. -/
def vh (f : Nat → Int) : Nat → Int
  | 0 => 0
  | n + 1 => vh f n + f n * ph n
def Rh (f : Nat → Int) (n : Nat) : Prop := ∀ i, i < n → 0 ≤ f i ∧ f i < H32

theorem vh_congr {f g : Nat → Int} {n : Nat} (h : ∀ i, i < n → f i = g i) : vh f n = vh g n := by
  induction n with
  | zero => rfl
  | succ n ih => rw [vh, vh, ih (fun i hi => h i (by omega)), h n (by omega)]
theorem vh_sh (f : Nat → Int) (k n : Nat) : vh f (k + n) = vh f k + ph k * vh (sh f k) n := by
  induction n with
  | zero => simp [vh]
  | succ n ih => rw [Nat.add_succ, vh, ih, vh, ph_add, sh]; grind

/-- The carry into half limb k of s + x y. -/
def crh (s y : Nat → Int) (x : Int) : Nat → Int
  | 0 => 0
  | k + 1 => (s k + crh s y x k + x * y k) / H32
/-- Half limb k of s + x y. -/
def mh (s y : Nat → Int) (x : Int) (k : Nat) : Int := (s k + crh s y x k + x * y k) % H32

theorem prod_bd {x y : Int} (hx : 0 ≤ x ∧ x < H32) (hy : 0 ≤ y ∧ y < H32) : 0 ≤ x * y ∧ x * y ≤ 18446744065119617025 := by
  rw [H32_eq] at *
  refine ⟨Int.mul_nonneg hx.1 hy.1, ?_⟩
  have := Int.mul_le_mul (show x ≤ 4294967295 by omega) (show y ≤ 4294967295 by omega) hy.1 (by omega : (0 : Int) ≤ 4294967295)
  simpa using this

theorem ch_bd {s y : Nat → Int} {x : Int} {n : Nat} (hs : Rh s n) (hy : Rh y n) (hx : 0 ≤ x ∧ x < H32) : 0 ≤ crh s y x n ∧ crh s y x n < H32 := by
  induction n with
  | zero => exact ⟨Int.le_refl _, H32_pos⟩
  | succ n ih =>
    have a := ih (fun i hi => hs i (by omega)) (fun i hi => hy i (by omega))
    have b := hs n (by omega)
    have p := prod_bd hx (hy n (by omega))
    rw [crh]
    generalize x * y n = q at *
    rw [H32_eq] at *
    omega

theorem mh_rh (s y : Nat → Int) (x : Int) (n : Nat) : Rh (mh s y x) n := fun i _ =>
  ⟨Int.emod_nonneg _ (by rw [H32_eq]; decide), Int.emod_lt_of_pos _ H32_pos⟩

theorem vh_mh (s y : Nat → Int) (x : Int) (n : Nat) : vh (mh s y x) n + crh s y x n * ph n = vh s n + x * vh y n := by
  induction n with
  | zero => simp [vh, crh]
  | succ n ih =>
    have e : mh s y x n + H32 * ((s n + crh s y x n + x * y n) / H32) = s n + crh s y x n + x * y n := Int.emod_add_mul_ediv _ _
    rw [vh, vh, vh, crh, ph]
    generalize (s n + crh s y x n + x * y n) / H32 = q at *
    grind

/-- A row of half limbs behind one more: D with x times y added from i on. -/
def hrow (D y : Nat → Int) (x : Int) (i k : Nat) : Nat → Int := fun j => if i ≤ j ∧ j < i + k then mh (sh D i) y x (j - i) else D j

theorem hrow_zero (D y : Nat → Int) (x : Int) (i j : Nat) : hrow D y x i 0 j = D j := by unfold hrow; rw [if_neg (by omega)]
theorem hrow_at (D y : Nat → Int) (x : Int) (i k : Nat) : hrow D y x i k (i + k) = D (i + k) := by unfold hrow; rw [if_neg (by omega)]
theorem hrow_up (D y : Nat → Int) (x : Int) (i k j : Nat) : (if j = i + k then mh (sh D i) y x k else hrow D y x i k j) = hrow D y x i (k + 1) j := by
  unfold hrow
  split
  · subst_vars; rw [if_pos (by omega), show i + k - i = k by omega]
  · split
    · rw [if_pos (by omega)]
    · rw [if_neg (by omega)]

theorem hrow_all {D y : Nat → Int} {x : Int} {i n N : Nat} (hx : 0 ≤ x ∧ x < H32) (hy : Rh y n) (rD : Rh D N) (hN : i + n + 1 ≤ N) (hz : ∀ j, i + n ≤ j → j < N → D j = 0) :
    crh (sh D i) (lm y n) x (n + 1) = 0 ∧ (crh (sh D i) (lm y n) x n = 0 → ∀ j, hrow D (lm y n) x i n j = hrow D (lm y n) x i (n + 1) j) ∧
    vh (hrow D (lm y n) x i (n + 1)) (i + 1 + n) = vh D (i + n) + x * vh y n * ph i ∧ Rh (hrow D (lm y n) x i (n + 1)) N ∧ (∀ j, i + 1 + n ≤ j → j < N → hrow D (lm y n) x i (n + 1) j = 0) := by
  have rs : Rh (sh D i) n := fun j hj => rD (i + j) (by omega)
  have ry : Rh (lm y n) n := fun j hj => by rw [lm_in hj]; exact hy j hj
  have cb := ch_bd rs ry hx
  have s0 : sh D i n = 0 := hz (i + n) (by omega) (by omega)
  have y0 : lm y n n = 0 := lm_out (Nat.le_refl _)
  have c1 : crh (sh D i) (lm y n) x (n + 1) = 0 := by
    rw [crh, s0, y0, Int.mul_zero]
    rw [H32_eq] at *; omega
  have m1 : mh (sh D i) (lm y n) x n = crh (sh D i) (lm y n) x n := by
    unfold mh
    rw [s0, y0, Int.mul_zero]
    rw [H32_eq] at *; omega
  refine ⟨c1, ?_, ?_, ?_, ?_⟩
  · intro h0 j
    rw [← hrow_up]
    split
    · subst_vars; rw [hrow_at, m1, h0]; exact s0
    · rfl
  · rw [show i + 1 + n = i + (n + 1) by omega, vh_sh]
    have e1 : vh (hrow D (lm y n) x i (n + 1)) i = vh D i := vh_congr fun j hj => by unfold hrow; rw [if_neg (by omega)]
    have e2 : vh (sh (hrow D (lm y n) x i (n + 1)) i) (n + 1) = vh (mh (sh D i) (lm y n) x) (n + 1) := vh_congr fun j hj => by
      show hrow D (lm y n) x i (n + 1) (i + j) = _
      unfold hrow; rw [if_pos (by omega), show i + j - i = j by omega]
    have e3 := vh_mh (sh D i) (lm y n) x (n + 1)
    rw [c1, Int.zero_mul, Int.add_zero] at e3
    have e4 : vh (sh D i) (n + 1) = vh (sh D i) n := by rw [vh, s0]; simp
    have e5 : vh (lm y n) (n + 1) = vh y n := by rw [vh, y0, vh_congr (fun j hj => lm_in hj)]; simp
    have e6 := vh_sh D i n
    rw [e1, e2, e3, e4, e5, e6]
    grind
  · intro j hj
    unfold hrow
    split
    · exact mh_rh _ _ _ (j - i + 1) _ (by omega)
    · exact rD j hj
  · intro j h1 h2
    unfold hrow
    rw [if_neg (by omega)]; exact hz j (by omega) h2

end Go.Proofs.YtgdmjngajjoliaaDoor
