/- Plain mathematics for the statements on wide numbers: what a list of limbs is worth, and how carries, borrows and products go. No program is named here. -/
namespace Go.Proofs.Ytklddcicfeakfaa

/-- 2^64. -/
def B64 : Int := 18446744073709551616
theorem B64_eq : B64 = 18446744073709551616 := rfl
theorem B64_pos : 0 < B64 := by rw [B64_eq]; decide

/-- 2^(64 n). -/
def pw : Nat → Int
  | 0 => 1
  | n + 1 => pw n * B64

theorem pw_pos (n : Nat) : 0 < pw n := by
  induction n with
  | zero => decide
  | succ n ih => exact Int.mul_pos ih B64_pos

theorem pw_add (a b : Nat) : pw (a + b) = pw a * pw b := by
  induction b with
  | zero => simp [pw]
  | succ b ih => rw [Nat.add_succ, pw, ih, pw, Int.mul_assoc]

theorem pw_mono {a b : Nat} (h : a ≤ b) : pw a ≤ pw b := by
  induction b with
  | zero => have : a = 0 := by omega
            subst this; exact Int.le_refl _
  | succ b ih =>
    by_cases e : a = b + 1
    · subst e; exact Int.le_refl _
    · have h1 := ih (by omega)
      have h2 := pw_pos b
      rw [pw, B64_eq]; omega

/-- What the first n limbs are worth. -/
def val (f : Nat → Int) : Nat → Int
  | 0 => 0
  | n + 1 => val f n + f n * pw n

/-- All n limbs lie in their range. -/
def Rg (f : Nat → Int) (n : Nat) : Prop := ∀ i, i < n → 0 ≤ f i ∧ f i < B64

theorem Rg.mono {f : Nat → Int} {n m : Nat} (h : Rg f n) (hm : m ≤ n) : Rg f m := fun i hi => h i (by omega)
theorem Rg.congr {f g : Nat → Int} {n : Nat} (h : Rg f n) (e : ∀ i, i < n → f i = g i) : Rg g n := fun i hi => by rw [← e i hi]; exact h i hi

theorem val_congr {f g : Nat → Int} {n : Nat} (h : ∀ i, i < n → f i = g i) : val f n = val g n := by
  induction n with
  | zero => rfl
  | succ n ih => rw [val, val, ih (fun i hi => h i (by omega)), h n (by omega)]

theorem mul_le_of {x y p : Int} (h : x ≤ y) (hp : 0 ≤ p) : x * p ≤ y * p := Int.mul_le_mul_of_nonneg_right h hp

theorem val_bd {f : Nat → Int} {n : Nat} (h : Rg f n) : 0 ≤ val f n ∧ val f n < pw n := by
  induction n with
  | zero => exact ⟨Int.le_refl _, by simp [val, pw]⟩
  | succ n ih =>
    have ⟨h1, h2⟩ := ih (h.mono (by omega))
    have ⟨h3, h4⟩ := h n (by omega)
    have hp := pw_pos n
    have a := Int.mul_nonneg h3 (Int.le_of_lt hp)
    have b := mul_le_of (show f n ≤ B64 - 1 by omega) (Int.le_of_lt hp)
    rw [Int.sub_mul, Int.one_mul, Int.mul_comm B64] at b
    rw [val, pw]
    omega

theorem val_zero {f : Nat → Int} {n : Nat} (h : ∀ i, i < n → f i = 0) : val f n = 0 := by
  induction n with
  | zero => rfl
  | succ n ih => rw [val, ih (fun i hi => h i (by omega)), h n (by omega)]; simp

/-- The first m of n limbs that are left when the noughts on top are struck. -/
def tl (f : Nat → Int) : Nat → Nat
  | 0 => 0
  | n + 1 => if f n = 0 then tl f n else n + 1

theorem tl_le (f : Nat → Int) (n : Nat) : tl f n ≤ n := by
  induction n with
  | zero => exact Nat.le_refl _
  | succ n ih => unfold tl; split <;> omega

theorem val_tl (f : Nat → Int) (n : Nat) : val f (tl f n) = val f n := by
  induction n with
  | zero => rfl
  | succ n ih =>
    unfold tl
    split
    · rename_i h; rw [ih, val, h]; simp
    · rfl

/-- No nought on top. -/
def Nm (f : Nat → Int) (n : Nat) : Prop := n = 0 ∨ f (n - 1) ≠ 0

theorem nm_tl (f : Nat → Int) (n : Nat) : Nm f (tl f n) := by
  induction n with
  | zero => exact Or.inl rfl
  | succ n ih =>
    unfold tl
    split
    · exact ih
    · rename_i h; exact Or.inr (by simpa using h)

theorem tl_of_nm {f : Nat → Int} {n : Nat} (h : Nm f n) : tl f n = n := by
  cases n with
  | zero => rfl
  | succ n =>
    rcases h with h | h
    · omega
    · rw [tl, if_neg (by simpa using h)]

theorem tl_congr {f g : Nat → Int} {n : Nat} (h : ∀ i, i < n → f i = g i) : tl f n = tl g n := by
  induction n with
  | zero => rfl
  | succ n ih => rw [tl, tl, h n (by omega), ih (fun i hi => h i (by omega))]

theorem nm_lb {f : Nat → Int} {n : Nat} (h : Rg f (n + 1)) (hn : Nm f (n + 1)) : pw n ≤ val f (n + 1) := by
  have h1 := (val_bd (h.mono (show n ≤ n + 1 by omega))).1
  have ⟨h3, _⟩ := h n (by omega)
  have hne : f n ≠ 0 := by rcases hn with h | h; · omega
                           · simpa using h
  have b := mul_le_of (show 1 ≤ f n by omega) (Int.le_of_lt (pw_pos n))
  rw [val]; omega

theorem digits {f g : Nat → Int} {n : Nat} (hf : Rg f n) (hg : Rg g n) (e : val f n = val g n) : ∀ i, i < n → f i = g i := by
  induction n with
  | zero => intro i hi; omega
  | succ n ih =>
    have a := val_bd (hf.mono (show n ≤ n + 1 by omega))
    have b := val_bd (hg.mono (show n ≤ n + 1 by omega))
    rw [val, val] at e
    have hp := pw_pos n
    have top : f n = g n := by
      rcases Int.lt_trichotomy (f n) (g n) with h | h | h
      · have c := mul_le_of (show f n + 1 ≤ g n by omega) (Int.le_of_lt hp)
        rw [Int.add_mul, Int.one_mul] at c; omega
      · exact h
      · have c := mul_le_of (show g n + 1 ≤ f n by omega) (Int.le_of_lt hp)
        rw [Int.add_mul, Int.one_mul] at c; omega
    intro i hi
    by_cases ei : i = n
    · subst ei; exact top
    · exact ih (hf.mono (by omega)) (hg.mono (by omega)) (by rw [top] at e; omega) i (by omega)

theorem uniq {f g : Nat → Int} {n m : Nat} (hf : Rg f n) (hg : Rg g m) (nf : Nm f n) (ng : Nm g m) (e : val f n = val g m) : n = m ∧ ∀ i, i < n → f i = g i := by
  have len : n = m := by
    rcases Nat.lt_trichotomy n m with h | h | h
    · obtain ⟨k, rfl⟩ : ∃ k, m = k + 1 := ⟨m - 1, by omega⟩
      have a := (val_bd hf).2
      have b := nm_lb hg ng
      have c := pw_mono (show n ≤ k by omega)
      omega
    · exact h
    · obtain ⟨k, rfl⟩ : ∃ k, n = k + 1 := ⟨n - 1, by omega⟩
      have a := (val_bd hg).2
      have b := nm_lb hf nf
      have c := pw_mono (show m ≤ k by omega)
      omega
  subst len
  exact ⟨rfl, digits hf hg e⟩

/-- -1, 0, 1. -/
def ord (x y : Int) : Int := if x < y then -1 else if y < x then 1 else 0

theorem ord_lt {x y : Int} (h : x < y) : ord x y = -1 := by unfold ord; rw [if_pos h]
theorem ord_gt {x y : Int} (h : y < x) : ord x y = 1 := by unfold ord; rw [if_neg (by omega), if_pos h]
theorem ord_eq {x y : Int} (h : x = y) : ord x y = 0 := by unfold ord; rw [if_neg (by omega), if_neg (by omega)]
theorem ord_bd (x y : Int) : -1 ≤ ord x y ∧ ord x y ≤ 1 := by unfold ord; split; · omega
                                                              · split <;> omega
theorem ord_neg_iff {x y : Int} : ord x y < 0 ↔ x < y := by unfold ord; split; · omega
                                                            · split <;> omega
theorem ord_zero_iff {x y : Int} : ord x y = 0 ↔ x = y := by unfold ord; split; · omega
                                                             · split <;> omega

theorem len_lt {f g : Nat → Int} {n m : Nat} (hf : Rg f n) (hg : Rg g m) (ng : Nm g m) (h : n < m) : val f n < val g m := by
  obtain ⟨k, rfl⟩ : ∃ k, m = k + 1 := ⟨m - 1, by omega⟩
  have a := (val_bd hf).2
  have b := nm_lb hg ng
  have c := pw_mono (show n ≤ k by omega)
  omega

theorem ord_len {f g : Nat → Int} {n m : Nat} (hf : Rg f n) (hg : Rg g m) (nf : Nm f n) (ng : Nm g m) (h : n ≠ m) : ord (val f n) (val g m) = ord (n : Int) (m : Int) := by
  rcases Nat.lt_or_ge n m with a | a
  · rw [ord_lt (len_lt hf hg ng a), ord_lt (by omega)]
  · have a' : m < n := by omega
    rw [ord_gt (len_lt hg hf nf a'), ord_gt (by omega)]

theorem val_top_lt {f g : Nat → Int} {n : Nat} (hf : Rg f (n + 1)) (hg : Rg g (n + 1)) (h : f n < g n) : val f (n + 1) < val g (n + 1) := by
  have a := val_bd (hf.mono (show n ≤ n + 1 by omega))
  have b := val_bd (hg.mono (show n ≤ n + 1 by omega))
  have c := mul_le_of (show f n + 1 ≤ g n by omega) (Int.le_of_lt (pw_pos n))
  rw [Int.add_mul, Int.one_mul] at c
  rw [val, val]; omega

theorem val_high_eq {f g : Nat → Int} {k n : Nat} (hk : k ≤ n) (h : ∀ i, k ≤ i → i < n → f i = g i) : val f n - val f k = val g n - val g k := by
  induction n with
  | zero => have : k = 0 := by omega
            subst this; simp [val]
  | succ n ih =>
    by_cases e : k = n + 1
    · subst e; omega
    · have i1 := ih (by omega) (fun i h1 h2 => h i h1 (by omega))
      rw [val, val, h n (by omega) (by omega)]; omega

/-- What the first limb that parts, from the top, says. -/
theorem ord_at {f g : Nat → Int} {k n : Nat} (hf : Rg f n) (hg : Rg g n) (hk : k < n) (h : ∀ i, k < i → i < n → f i = g i) (hne : f k ≠ g k) : ord (val f n) (val g n) = ord (f k) (g k) := by
  have e := val_high_eq (f := f) (g := g) (k := k + 1) (n := n) (by omega) (fun i h1 h2 => h i (by omega) h2)
  rcases Int.lt_trichotomy (f k) (g k) with a | a | a
  · have b := val_top_lt (hf.mono (show k + 1 ≤ n by omega)) (hg.mono (show k + 1 ≤ n by omega)) a
    rw [ord_lt a, ord_lt (by omega)]
  · exact absurd a hne
  · have b := val_top_lt (hg.mono (show k + 1 ≤ n by omega)) (hf.mono (show k + 1 ≤ n by omega)) a
    rw [ord_gt a, ord_gt (by omega)]

/-- The i-th limb, 0 above the n-th. -/
def lm (f : Nat → Int) (n : Nat) : Nat → Int := fun i => if i < n then f i else 0

theorem lm_in {f : Nat → Int} {n i : Nat} (h : i < n) : lm f n i = f i := by unfold lm; rw [if_pos h]
theorem lm_out {f : Nat → Int} {n i : Nat} (h : n ≤ i) : lm f n i = 0 := by unfold lm; rw [if_neg (by omega)]
theorem lm_rg {f : Nat → Int} {n : Nat} (h : Rg f n) (m : Nat) : Rg (lm f n) m := fun i _ => by
  unfold lm; split
  · exact h i (by assumption)
  · exact ⟨Int.le_refl _, B64_pos⟩
theorem val_lm (f : Nat → Int) (n m : Nat) (h : n ≤ m) : val (lm f n) m = val f n := by
  induction m with
  | zero => have : n = 0 := by omega
            subst this; rfl
  | succ m ih =>
    by_cases e : n = m + 1
    · subst e; exact val_congr (fun i hi => lm_in hi)
    · rw [val, ih (by omega), lm_out (by omega)]; simp

/-- The carry into limb i of f + g + c. -/
def cy (f g : Nat → Int) (c : Int) : Nat → Int
  | 0 => c
  | i + 1 => (f i + g i + cy f g c i) / B64
/-- Limb i of f + g + c. -/
def sm (f g : Nat → Int) (c : Int) (i : Nat) : Int := (f i + g i + cy f g c i) % B64

theorem cy_bd {f g : Nat → Int} {c : Int} {n : Nat} (hf : Rg f n) (hg : Rg g n) (hc : 0 ≤ c ∧ c ≤ 1) : 0 ≤ cy f g c n ∧ cy f g c n ≤ 1 := by
  induction n with
  | zero => exact hc
  | succ n ih =>
    have a := ih (hf.mono (by omega)) (hg.mono (by omega))
    have b := hf n (by omega)
    have d := hg n (by omega)
    rw [B64_eq] at b d
    rw [cy, B64_eq]; omega

theorem sm_rg (f g : Nat → Int) (c : Int) (n : Nat) : Rg (sm f g c) n := fun i _ =>
  ⟨Int.emod_nonneg _ (by rw [B64_eq]; decide), Int.emod_lt_of_pos _ B64_pos⟩

theorem val_sm (f g : Nat → Int) (c : Int) (n : Nat) : val (sm f g c) n + cy f g c n * pw n = val f n + val g n + c := by
  induction n with
  | zero => simp [val, cy, pw]
  | succ n ih =>
    have e : sm f g c n + B64 * ((f n + g n + cy f g c n) / B64) = f n + g n + cy f g c n := Int.emod_add_mul_ediv _ _
    rw [val, val, val, cy, pw]
    generalize (f n + g n + cy f g c n) / B64 = q at *
    grind

/-- The borrow into limb i of f - g. -/
def bw (f g : Nat → Int) : Nat → Int
  | 0 => 0
  | i + 1 => if f i < g i + bw f g i then 1 else 0
/-- Limb i of f - g. -/
def df (f g : Nat → Int) (i : Nat) : Int := (f i + B64 - g i - bw f g i) % B64

theorem bw_bd (f g : Nat → Int) (n : Nat) : 0 ≤ bw f g n ∧ bw f g n ≤ 1 := by
  cases n with
  | zero => exact ⟨Int.le_refl _, by simp [bw]⟩
  | succ n => rw [bw]; split <;> omega

theorem df_rg (f g : Nat → Int) (n : Nat) : Rg (df f g) n := fun i _ =>
  ⟨Int.emod_nonneg _ (by rw [B64_eq]; decide), Int.emod_lt_of_pos _ B64_pos⟩

theorem df_eq {f g : Nat → Int} {n : Nat} (hf : Rg f (n + 1)) (hg : Rg g (n + 1)) : df f g n = f n - g n - bw f g n + bw f g (n + 1) * B64 := by
  have a := hf n (by omega)
  have b := hg n (by omega)
  have c := bw_bd f g n
  rw [bw, df]
  rw [B64_eq] at *
  split <;> omega

theorem val_df {f g : Nat → Int} {n : Nat} (hf : Rg f n) (hg : Rg g n) : val (df f g) n + val g n = val f n + bw f g n * pw n := by
  induction n with
  | zero => simp [val, bw]
  | succ n ih =>
    have i1 := ih (hf.mono (by omega)) (hg.mono (by omega))
    have e := df_eq hf hg
    rw [val, val, val, pw, e]
    grind

/-- A difference that is none too great has no borrow left. -/
theorem val_df_ge {f g : Nat → Int} {n : Nat} (hf : Rg f n) (hg : Rg g n) (h : val g n ≤ val f n) : val (df f g) n = val f n - val g n := by
  have a := val_df hf hg
  have b := val_bd (df_rg f g n)
  have c := bw_bd f g n
  have d := (val_bd hf).2
  have e := (val_bd hg).1
  have hp := pw_pos n
  rcases (show bw f g n = 0 ∨ bw f g n = 1 by omega) with h0 | h1
  · rw [h0] at a; omega
  · rw [h1] at a; omega

theorem val_sm_lt {f g : Nat → Int} {c : Int} {n : Nat} (hf : Rg f n) (hg : Rg g n) (hc : 0 ≤ c ∧ c ≤ 1) (h : val f n + val g n + c < pw n) : val (sm f g c) n = val f n + val g n + c := by
  have a := val_sm f g c n
  have b := val_bd (sm_rg f g c n)
  have d := cy_bd hf hg hc
  rcases (show cy f g c n = 0 ∨ cy f g c n = 1 by omega) with h0 | h1
  · rw [h0] at a; omega
  · rw [h1] at a; omega

/-- The carry into limb i of s + k f. -/
def ct (s f : Nat → Int) (k : Int) : Nat → Int
  | 0 => 0
  | i + 1 => (f i * k + s i + ct s f k i) / B64
/-- Limb i of s + k f. -/
def tm (s f : Nat → Int) (k : Int) (i : Nat) : Int := (f i * k + s i + ct s f k i) % B64

theorem ct_bd {s f : Nat → Int} {k : Int} {n : Nat} (hs : Rg s n) (hf : Rg f n) (hk : 0 ≤ k ∧ k < B64) : 0 ≤ ct s f k n ∧ ct s f k n < B64 := by
  induction n with
  | zero => exact ⟨Int.le_refl _, B64_pos⟩
  | succ n ih =>
    have a := ih (hs.mono (by omega)) (hf.mono (by omega))
    have b := hs n (by omega)
    have d := hf n (by omega)
    have p0 := Int.mul_nonneg d.1 hk.1
    have p1 := Int.mul_le_mul (show f n ≤ B64 - 1 by omega) (show k ≤ B64 - 1 by omega) hk.1 (by have := B64_pos; omega)
    rw [ct]
    refine ⟨Int.ediv_nonneg (by omega) (Int.le_of_lt B64_pos), Int.ediv_lt_of_lt_mul B64_pos ?_⟩
    rw [B64_eq] at *
    omega

theorem tm_rg (s f : Nat → Int) (k : Int) (n : Nat) : Rg (tm s f k) n := fun i _ =>
  ⟨Int.emod_nonneg _ (by rw [B64_eq]; decide), Int.emod_lt_of_pos _ B64_pos⟩

theorem val_tm (s f : Nat → Int) (k : Int) (n : Nat) : val (tm s f k) n + ct s f k n * pw n = val s n + val f n * k := by
  induction n with
  | zero => simp [val, ct]
  | succ n ih =>
    have e : tm s f k n + B64 * ((f n * k + s n + ct s f k n) / B64) = f n * k + s n + ct s f k n := Int.emod_add_mul_ediv _ _
    rw [val, val, val, ct, pw]
    generalize (f n * k + s n + ct s f k n) / B64 = q at *
    grind

/-- How addTimes reckons one limb. -/
theorem mul_step {x k s c : Int} (hx : 0 ≤ x ∧ x < B64) (hk : 0 ≤ k ∧ k < B64) (hs : 0 ≤ s ∧ s < B64) (hc : 0 ≤ c ∧ c < B64) :
    ((x * k % B64 + s) % B64 + c) % B64 = (x * k + s + c) % B64 ∧
    (x * k / B64 + (x * k % B64 + s) / B64 + ((x * k % B64 + s) % B64 + c) / B64) = (x * k + s + c) / B64 ∧
    0 ≤ x * k / B64 + (x * k % B64 + s) / B64 ∧ x * k / B64 + (x * k % B64 + s) / B64 < B64 ∧ (x * k + s + c) / B64 < B64 := by
  have p0 := Int.mul_nonneg hx.1 hk.1
  have p1 := Int.mul_le_mul (show x ≤ B64 - 1 by omega) (show k ≤ B64 - 1 by omega) hk.1 (by have := B64_pos; omega)
  generalize x * k = p at *
  rw [B64_eq] at *
  refine ⟨by omega, by omega, by omega, by omega, by omega⟩

/-- Limbs from the k-th on. -/
def sh (f : Nat → Int) (k : Nat) : Nat → Int := fun i => f (k + i)
theorem val_sh (f : Nat → Int) (k n : Nat) : val f (k + n) = val f k + pw k * val (sh f k) n := by
  induction n with
  | zero => simp [val]
  | succ n ih => rw [Nat.add_succ, val, ih, val, pw_add, sh]; grind

end Go.Proofs.Ytklddcicfeakfaa
