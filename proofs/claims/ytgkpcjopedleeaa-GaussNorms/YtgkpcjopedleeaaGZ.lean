/- Whole complex numbers as pairs: norms, what divides, greatest common divisors. No program is named here. -/
namespace Go.Proofs.Ytgkpcjopedleeaa

abbrev Gz := Int × Int
def gm (a b : Gz) : Gz := (a.1 * b.1 - a.2 * b.2, a.1 * b.2 + a.2 * b.1)
def ga (a b : Gz) : Gz := (a.1 + b.1, a.2 + b.2)
def gs (a b : Gz) : Gz := (a.1 - b.1, a.2 - b.2)
def gc (a : Gz) : Gz := (a.1, -a.2)
/-- The norm. -/
def gn (a : Gz) : Int := a.1 * a.1 + a.2 * a.2
/-- a divides b. -/
def gd (a b : Gz) : Prop := ∃ c, b = gm a c

theorem gext {a b : Gz} (h1 : a.1 = b.1) (h2 : a.2 = b.2) : a = b := Prod.ext h1 h2
theorem gn_mul (a b : Gz) : gn (gm a b) = gn a * gn b := by simp only [gn, gm]; grind
theorem gn_conj (a : Gz) : gn (gc a) = gn a := by simp only [gn, gc]; grind
theorem gm_conj (a : Gz) : gm a (gc a) = (gn a, 0) := by apply gext <;> simp only [gn, gc, gm] <;> grind
theorem gm_comm (a b : Gz) : gm a b = gm b a := by apply gext <;> simp only [gm] <;> grind
theorem gm_assoc (a b c : Gz) : gm (gm a b) c = gm a (gm b c) := by apply gext <;> simp only [gm] <;> grind
theorem gm_one (a : Gz) : gm a (1, 0) = a := by apply gext <;> simp only [gm] <;> grind
theorem gm_zero (a : Gz) : gm a (0, 0) = (0, 0) := by apply gext <;> simp only [gm] <;> grind
theorem gm_ga (a b c : Gz) : gm a (ga b c) = ga (gm a b) (gm a c) := by apply gext <;> simp only [gm, ga] <;> grind

theorem sq_nonneg (x : Int) : 0 ≤ x * x := by
  rcases Int.le_total 0 x with h | h
  · exact Int.mul_nonneg h h
  · have := Int.mul_nonneg (show 0 ≤ -x by omega) (show 0 ≤ -x by omega)
    rw [Int.neg_mul_neg] at this
    exact this
theorem gn_nonneg (a : Gz) : 0 ≤ gn a := by
  have := sq_nonneg a.1; have := sq_nonneg a.2
  show 0 ≤ a.1 * a.1 + a.2 * a.2
  omega
theorem gn_zero {a : Gz} (h : gn a = 0) : a = (0, 0) := by
  have h1 := sq_nonneg a.1; have h2 := sq_nonneg a.2
  have h3 : a.1 * a.1 + a.2 * a.2 = 0 := h
  have e1 : a.1 * a.1 = 0 := by omega
  have e2 : a.2 * a.2 = 0 := by omega
  apply gext
  · rcases Int.mul_eq_zero.1 e1 with h | h <;> exact h
  · rcases Int.mul_eq_zero.1 e2 with h | h <;> exact h
theorem gn_pos {a : Gz} (h : a ≠ (0, 0)) : 0 < gn a := by
  have h1 := gn_nonneg a
  rcases (show gn a = 0 ∨ 0 < gn a by omega) with e | e
  · exact absurd (gn_zero e) h
  · exact e

theorem sq_one {x : Int} (h : x * x ≤ 1) : x = -1 ∨ x = 0 ∨ x = 1 := by
  rcases (show x ≤ -2 ∨ x = -1 ∨ x = 0 ∨ x = 1 ∨ 2 ≤ x by omega) with e | e | e | e | e
  · have := Int.mul_le_mul_of_nonneg_left (show (2 : Int) ≤ -x by omega) (show (0 : Int) ≤ -x by omega)
    rw [Int.neg_mul_neg] at this
    omega
  · exact .inl e
  · exact .inr (.inl e)
  · exact .inr (.inr e)
  · have := Int.mul_le_mul_of_nonneg_left (show (2 : Int) ≤ x by omega) (show (0 : Int) ≤ x by omega)
    omega

theorem unit_cases {u : Gz} (h : gn u = 1) : u = (1, 0) ∨ u = (-1, 0) ∨ u = (0, 1) ∨ u = (0, -1) := by
  have h1 := sq_nonneg u.1; have h2 := sq_nonneg u.2
  have h3 : u.1 * u.1 + u.2 * u.2 = 1 := h
  obtain ⟨a, b⟩ := u
  simp only at *
  rcases sq_one (show a * a ≤ 1 by omega) with e | e | e <;> rcases sq_one (show b * b ≤ 1 by omega) with f | f | f <;> subst e <;> subst f <;> simp at h3 <;> simp

/-- g divides both, and is a sum of multiples of both. -/
def IsGcd (g x y : Gz) : Prop := gd g x ∧ gd g y ∧ ∃ s t, g = ga (gm s x) (gm t y)

theorem IsGcd.comm {g x y : Gz} (h : IsGcd g x y) : IsGcd g y x := by
  obtain ⟨h1, h2, s, t, h3⟩ := h
  refine ⟨h2, h1, t, s, ?_⟩
  rw [h3]; apply gext <;> simp only [ga] <;> omega

theorem IsGcd.zero (a : Gz) : IsGcd a a (0, 0) :=
  ⟨⟨(1, 0), (gm_one a).symm⟩, ⟨(0, 0), (gm_zero a).symm⟩, (1, 0), (0, 0), by apply gext <;> simp only [ga, gm] <;> grind⟩

/-- Euclid's step: a = q b + r. -/
theorem IsGcd.step {g a b q : Gz} (h : IsGcd g b (gs a (gm q b))) : IsGcd g a b := by
  obtain ⟨⟨c, hc⟩, ⟨d, hd⟩, s, t, hg⟩ := h
  refine ⟨⟨ga d (gm q c), ?_⟩, ⟨c, hc⟩, t, gs s (gm t q), ?_⟩
  · have e : a = ga (gs a (gm q b)) (gm q b) := by apply gext <;> simp only [ga, gs] <;> omega
    rw [e, hd, hc, gm_ga]
    congr 1
    rw [← gm_assoc, gm_comm q g, gm_assoc]
  · rw [hg]; apply gext <;> simp only [ga, gs, gm] <;> grind

theorem IsGcd.unit {g x y u : Gz} (h : IsGcd g x y) (hu : gn u = 1) : IsGcd (gm g u) x y := by
  obtain ⟨⟨c, hc⟩, ⟨d, hd⟩, s, t, hg⟩ := h
  have k : ∀ e, gm g e = gm (gm g u) (gm (gc u) e) := fun e => by
    rw [gm_assoc, ← gm_assoc u, gm_conj, hu, gm_comm (1, 0), gm_one]
  refine ⟨⟨gm (gc u) c, by rw [hc, k c]⟩, ⟨gm (gc u) d, by rw [hd, k d]⟩, gm s u, gm t u, ?_⟩
  rw [hg]; apply gext <;> simp only [ga, gm] <;> grind

theorem IsGcd.dvd {g h x y : Gz} (a : IsGcd g x y) (b : IsGcd h x y) : gd g h := by
  obtain ⟨⟨c, hc⟩, ⟨d, hd⟩, -⟩ := a
  obtain ⟨-, -, s, t, hh⟩ := b
  refine ⟨ga (gm s c) (gm t d), ?_⟩
  rw [hh, hc, hd]; apply gext <;> simp only [ga, gm] <;> grind

theorem IsGcd.mul {g x y : Gz} (h : IsGcd g x y) (z : Gz) : IsGcd (gm g z) (gm x z) (gm y z) := by
  obtain ⟨⟨c, hc⟩, ⟨d, hd⟩, s, t, hg⟩ := h
  refine ⟨⟨c, ?_⟩, ⟨d, ?_⟩, s, t, ?_⟩
  · rw [hc]; apply gext <;> simp only [gm] <;> grind
  · rw [hd]; apply gext <;> simp only [gm] <;> grind
  · rw [hg]; apply gext <;> simp only [ga, gm] <;> grind

theorem mul_eq_one {a b : Int} (ha : 0 ≤ a) (hb : 0 ≤ b) (h : a * b = 1) : a = 1 := by
  rcases (show a = 0 ∨ a = 1 ∨ 2 ≤ a by omega) with e | e | e
  · subst e; simp at h
  · exact e
  · rcases (show b = 0 ∨ 1 ≤ b by omega) with f | f
    · subst f; simp at h
    · have := Int.mul_le_mul e f (by decide) ha
      omega

/-- What divides each other differs by a unit. -/
theorem alike {g h : Gz} (a : gd g h) (b : gd h g) : ∃ u, gn u = 1 ∧ h = gm g u := by
  obtain ⟨c, hc⟩ := a
  obtain ⟨d, hd⟩ := b
  by_cases h0 : g = (0, 0)
  · refine ⟨(1, 0), by decide, ?_⟩
    rw [hc, h0, gm_comm, gm_zero, gm_comm, gm_zero]
  · have hp := gn_pos h0
    have e : gn g * (gn c * gn d) = gn g * 1 := by
      have : g = gm (gm g c) d := by rw [← hc]; exact hd
      have := congrArg gn this
      rw [gn_mul, gn_mul] at this
      rw [Int.mul_one, ← Int.mul_assoc]; exact this.symm
    have f := Int.eq_of_mul_eq_mul_left (by omega) e
    exact ⟨c, mul_eq_one (gn_nonneg c) (gn_nonneg d) f, hc⟩

theorem IsGcd.norm {g h x y : Gz} (a : IsGcd g x y) (b : IsGcd h x y) : gn g = gn h := by
  obtain ⟨u, hu, e⟩ := alike (a.dvd b) (b.dvd a)
  rw [e, gn_mul, hu, Int.mul_one]

/-- A real part above 0, an imaginary part of 0 or more; or nought. -/
def First (g : Gz) : Prop := g = (0, 0) ∨ (0 < g.1 ∧ 0 ≤ g.2)

theorem IsGcd.one {g h x y : Gz} (a : IsGcd g x y) (b : IsGcd h x y) (fg : First g) (fh : First h) : g = h := by
  obtain ⟨u, hu, e⟩ := alike (a.dvd b) (b.dvd a)
  obtain ⟨p, q⟩ := g
  rcases unit_cases hu with rfl | rfl | rfl | rfl
  · rw [e, gm_one]
  all_goals
    subst e
    simp only [First, gm, Prod.mk.injEq] at fg fh ⊢
    omega

/-- Each number but nought has one turn in the first quadrant. -/
theorem turns {g : Gz} (h : g ≠ (0, 0)) : First g ∨ First (gm g (0, 1)) ∨ First (gm (gm g (0, 1)) (0, 1)) ∨ First (gm (gm (gm g (0, 1)) (0, 1)) (0, 1)) := by
  obtain ⟨p, q⟩ := g
  simp only [First, gm, Prod.mk.injEq, ne_eq] at *
  omega

/-- The nearest quotient leaves no more than half. -/
theorem rest_small {a b q : Gz} (h1 : 2 * ((gm a (gc b)).1 - q.1 * gn b) ≤ gn b ∧ -gn b ≤ 2 * ((gm a (gc b)).1 - q.1 * gn b)) (h2 : 2 * ((gm a (gc b)).2 - q.2 * gn b) ≤ gn b ∧ -gn b ≤ 2 * ((gm a (gc b)).2 - q.2 * gn b)) (hb : 0 < gn b) :
    2 * gn (gs a (gm q b)) ≤ gn b := by
  have sqb : ∀ x n : Int, 0 < n → 2 * x ≤ n → -n ≤ 2 * x → 4 * (x * x) ≤ n * n := fun x n hn u v => by
    have h := Int.mul_nonneg (show 0 ≤ n - 2 * x by omega) (show 0 ≤ n + 2 * x by omega)
    have e : (n - 2 * x) * (n + 2 * x) = n * n - 4 * (x * x) := by grind
    omega
  have e : gn (gs a (gm q b)) * gn b = ((gm a (gc b)).1 - q.1 * gn b) * ((gm a (gc b)).1 - q.1 * gn b) + ((gm a (gc b)).2 - q.2 * gn b) * ((gm a (gc b)).2 - q.2 * gn b) := by
    simp only [gn, gs, gm, gc]; grind
  have s1 := sqb _ _ hb h1.1 h1.2
  have s2 := sqb _ _ hb h2.1 h2.2
  generalize gn (gs a (gm q b)) = r at *
  generalize gn b = n at *
  have : 2 * (2 * (r * n)) ≤ 2 * (n * n) := by omega
  have k : (2 * r) * n ≤ n * n := by
    have : 2 * r * n = 2 * (r * n) := by grind
    omega
  exact Int.le_of_mul_le_mul_right k hb
end Go.Proofs.Ytgkpcjopedleeaa
