/- The numbers behind Two: of a prime p of 1 modulo 4 some c has a power by (p - 1) / 4 whose square is -1, and what p shares with such a root and i has the norm p. -/
import Derived.Test.YtgkpcjopedleeaaGU
import Derived.Test.YtgkpcjopedleeaaGZ
namespace Go.Proofs.Ytgkpcjopedleeaa
open Go.RowKit
set_option linter.unusedVariables false

/-- A polynomial of degree m, its leading coefficient c. -/
def Pol (c : Int) : Nat → (Int → Int) → Prop
  | 0, f => ∀ x, f x = c
  | m + 1, f => ∃ g a, Pol c m g ∧ ∀ x, f x = x * g x + a

theorem Pol.up {c : Int} : ∀ {m : Nat} {f : Int → Int}, Pol c m f → Pol 0 (m + 1) f
  | 0, f, h => ⟨fun _ => 0, c, fun _ => rfl, fun x => by rw [h x, Int.mul_zero, Int.zero_add]⟩
  | m + 1, f, ⟨g, a, hg, h⟩ => ⟨g, a, hg.up, h⟩
theorem Pol.scale (r : Int) {c : Int} : ∀ {m : Nat} {f : Int → Int}, Pol c m f → Pol (r * c) m (fun x => r * f x)
  | 0, f, h => fun x => by show r * f x = _; rw [h x]
  | m + 1, f, ⟨g, a, hg, h⟩ => ⟨fun x => r * g x, r * a, hg.scale r, fun x => by show r * f x = _; rw [h x]; grind⟩
theorem Pol.add {c d : Int} : ∀ {m : Nat} {f g : Int → Int}, Pol c m f → Pol d m g → Pol (c + d) m (fun x => f x + g x)
  | 0, f, g, h, k => fun x => by show f x + g x = _; rw [h x, k x]
  | m + 1, f, g, ⟨f', a, hf, h⟩, ⟨g', b, hg, k⟩ => ⟨fun x => f' x + g' x, a + b, hf.add hg, fun x => by show f x + g x = _; rw [h x, k x]; grind⟩
theorem Pol.div {c : Int} (r : Int) : ∀ {m : Nat} {f : Int → Int}, Pol c (m + 1) f → ∃ g, Pol c m g ∧ ∀ x, f x - f r = (x - r) * g x
  | 0, f, ⟨g, a, hg, h⟩ => ⟨g, hg, fun x => by have h1 : g x = c := hg x; have h2 : g r = c := hg r; rw [h x, h r, h1, h2]; grind⟩
  | m + 1, f, ⟨g, a, hg, h⟩ => by
    obtain ⟨k, hk, e⟩ := hg.div r
    refine ⟨fun x => g x + r * k x, ?_, fun x => ?_⟩
    · have := hg.add (hk.scale r).up
      rwa [Int.add_zero] at this
    · have e1 := e x
      rw [h x, h r]
      show _ = (x - r) * (g x + r * k x)
      have e2 : (x - r) * (g x + r * k x) = (x - r) * g x + r * ((x - r) * k x) := by grind
      rw [e2, ← e1]
      grind

/-- Not all numbers from 1 to m + 1 are roots of a polynomial of degree m. -/
theorem Pol.roots {p : Nat} (hp : Pr p) : ∀ (m : Nat) (f : Int → Int), Pol 1 m f → m + 1 < p → ¬ ∀ j : Nat, 1 ≤ j → j ≤ m + 1 → (p : Int) ∣ f (j : Int) := by
  intro m
  induction m with
  | zero =>
    intro f hf hm h
    have h1 := h 1 (Nat.le_refl _) (Nat.le_refl _)
    rw [show f ((1 : Nat) : Int) = 1 from hf _] at h1
    have := Int.le_of_dvd (by decide) h1
    have := hp.1
    omega
  | succ m ih =>
    intro f hf hm h
    obtain ⟨g, hg, e⟩ := hf.div ((m + 2 : Nat) : Int)
    refine ih g hg (by omega) fun j j0 j1 => ?_
    have d : (p : Int) ∣ ((j : Int) - ((m + 2 : Nat) : Int)) * g j := by
      rw [← e]
      exact Int.dvd_sub (h j j0 (by omega)) (h (m + 2) (by omega) (Nat.le_refl _))
    rcases pr_split hp d with k | k
    · exfalso
      have k' : (p : Int) ∣ ((m + 2 : Nat) : Int) - (j : Int) := by
        have := Int.dvd_neg.2 k
        rwa [Int.neg_sub] at this
      have := Int.le_of_dvd (by omega) k'
      omega
    · exact k

theorem pol_pow : ∀ m, Pol 1 m (fun x => x ^ m)
  | 0 => fun x => Int.pow_zero x
  | m + 1 => ⟨fun x => x ^ m, 0, pol_pow m, fun x => by show x ^ (m + 1) = _; rw [Int.pow_succ, Int.mul_comm, Int.add_zero]⟩

theorem nonres {p k : Nat} (hp : Pr p) (hk : p = 4 * k + 1) (k0 : 0 < k) : ∃ c, c < p ∧ (c ^ k % p) * (c ^ k % p) % p = p - 1 := by
  refine Classical.byContradiction fun hn => ?_
  have hP : Pol 1 (2 * k) (fun x => x ^ (2 * k) - 1) := by
    obtain ⟨j, hj⟩ : ∃ j, 2 * k = j + 1 := ⟨2 * k - 1, by omega⟩
    rw [hj]
    exact ⟨fun x => x ^ j, -1, pol_pow j, fun x => by show x ^ (j + 1) - 1 = _; rw [Int.pow_succ, Int.mul_comm]; rfl⟩
  refine Pol.roots hp (2 * k) _ hP (by omega) fun c c0 c1 => ?_
  show (p : Int) ∣ (c : Int) ^ (2 * k) - 1
  have hc : ¬ p ∣ c := fun h => by have := Nat.le_of_dvd (by omega) h; omega
  have hf := fermat hp hc
  have e1 : c ^ (p - 1) = c ^ (2 * k) * c ^ (2 * k) := by rw [← Nat.pow_add]; congr 1; omega
  rw [e1] at hf
  have d : (p : Int) ∣ ((c : Int) ^ (2 * k) - 1) * ((c : Int) ^ (2 * k) + 1) := by
    have e2 : ((c : Int) ^ (2 * k) - 1) * ((c : Int) ^ (2 * k) + 1) = ((c ^ (2 * k) * c ^ (2 * k) : Nat) : Int) - 1 := by
      rw [Int.natCast_mul, Int.natCast_pow]; grind
    rw [e2]
    refine Int.dvd_of_emod_eq_zero ?_
    have h1 : (((c ^ (2 * k) * c ^ (2 * k) : Nat) : Int)) % (p : Int) = 1 := by rw [← Int.natCast_emod, hf]; rfl
    rw [Int.sub_emod, h1, Int.emod_eq_of_lt (a := 1) (by decide) (by have := hp.1; omega)]
    rfl
  rcases pr_split hp d with h | h
  · exact h
  · exfalso
    refine hn ⟨c, by omega, ?_⟩
    rw [← Nat.mul_mod, ← Nat.pow_add, show k + k = 2 * k by omega]
    have h' : p ∣ c ^ (2 * k) + 1 := by
      have : ((p : Int)) ∣ ((c ^ (2 * k) + 1 : Nat) : Int) := by rw [Int.natCast_add, Int.natCast_pow]; exact h
      exact Int.natCast_dvd_natCast.1 this
    obtain ⟨q, hq⟩ := h'
    obtain ⟨r, hr⟩ : ∃ r, q = r + 1 := ⟨q - 1, by
      rcases Nat.eq_zero_or_pos q with h0 | h0
      · rw [h0, Nat.mul_zero] at hq; omega
      · omega⟩
    rw [hr, Nat.mul_add, Nat.mul_one] at hq
    have e : c ^ (2 * k) = (p - 1) + p * r := by omega
    rw [e, Nat.add_mul_mod_self_left]
    exact Nat.mod_eq_of_lt (by have := hp.1; omega)

/-- What divides the square of a prime. -/
theorem sq_split {p n m : Nat} (hp : Pr p) (h : n * m = p * p) : n = 1 ∨ n = p ∨ m = 1 := by
  have p0 : 0 < p := by have := hp.1; omega
  rcases hp.of_mul (a := n) (b := m) ⟨p, h⟩ with ⟨a, rfl⟩ | ⟨b, rfl⟩
  · rw [Nat.mul_assoc] at h
    have h' := Nat.eq_of_mul_eq_mul_left p0 h
    rcases hp.2 m ⟨a, by rw [Nat.mul_comm]; exact h'.symm⟩ with e | e
    · exact .inr (.inr e)
    · have : a = 1 := by
        rw [e] at h'
        exact Nat.eq_of_mul_eq_mul_right p0 (by rw [h', Nat.one_mul])
      rw [this, Nat.mul_one]
      exact .inr (.inl rfl)
  · rw [Nat.mul_comm p b, ← Nat.mul_assoc] at h
    have h' := Nat.eq_of_mul_eq_mul_right p0 h
    rcases hp.2 n ⟨b, h'.symm⟩ with e | e
    · exact .inl e
    · exact .inr (.inl e)

theorem no_one {p : Nat} (hp : Pr p) {z : Int} (h : (p : Int) * z = 1) : False := by
  have : (p : Int) ∣ 1 := ⟨z, h.symm⟩
  have := Int.le_of_dvd (by decide) this
  have := hp.1
  omega

theorem ring_a (X G s P t Y : Gz) : gm X (gm G (ga (gm s P) (gm t Y))) = ga (gm (gm (gm X G) s) P) (gm (gm G t) (gm X Y)) := by apply gext <;> simp only [gm, ga] <;> grind
theorem gcd_norm {p : Nat} (hp : Pr p) {x : Int} (hx : (p : Int) ∣ x * x + 1) {g : Gz} (hg : IsGcd g ((p : Int), 0) (x, 1)) : gn g = p := by
  obtain ⟨⟨c, hc⟩, ⟨d, hd⟩, s, t, hst⟩ := hg
  have e0 := congrArg gn hc
  rw [gn_mul] at e0
  have e1 : gn ((p : Int), 0) = (p : Int) * p := by simp only [gn]; omega
  rw [e1] at e0
  obtain ⟨n, hn⟩ := Int.eq_ofNat_of_zero_le (gn_nonneg g)
  obtain ⟨m, hm⟩ := Int.eq_ofNat_of_zero_le (gn_nonneg c)
  rw [hn, hm] at e0
  have e2 : n * m = p * p := by
    rw [← Int.natCast_mul, ← Int.natCast_mul] at e0
    exact (Int.ofNat.inj e0).symm
  rcases sq_split hp e2 with h | h | h
  · exfalso
    subst h
    obtain ⟨q, hq⟩ := hx
    have u := gm_conj g
    rw [hn] at u
    have v : (x, -1) = ga (gm (gm (gm (x, -1) (gc g)) s) ((p : Int), 0)) (gm (gm (gc g) t) ((p : Int) * q, 0)) := by
      have w1 : ((x, -1) : Gz) = gm (x, -1) (gm g (gc g)) := by rw [u]; exact (gm_one _).symm
      have w2 : gm (x, -1) (x, 1) = ((p : Int) * q, 0) := by
        rw [← hq]
        apply gext <;> simp only [gm] <;> grind
      rw [← w2]
      refine w1.trans ?_
      rw [gm_comm g (gc g)]
      generalize gc g = G
      rw [hst]
      exact ring_a _ _ _ _ _ _
    have v2 := congrArg Prod.snd v
    simp only [gm, ga] at v2
    refine no_one hp (z := -((((x * (gc g).1 - -1 * (gc g).2) * s.2 + (x * (gc g).2 + -1 * (gc g).1) * s.1)) + ((gc g).1 * t.2 + (gc g).2 * t.1) * q)) ?_
    grind
  · rw [hn, h]
  · exfalso
    subst h
    have u := gm_conj c
    rw [hm] at u
    have v : (x, 1) = gm ((p : Int), 0) (gm (gc c) d) := by
      have w1 : g = gm ((p : Int), 0) (gc c) := by
        rw [hc, gm_assoc, u]
        exact (gm_one _).symm
      rw [← gm_assoc, ← w1]
      exact hd
    have v2 := congrArg Prod.snd v
    simp only [gm] at v2
    refine no_one hp (z := (gc c).1 * d.2 + (gc c).2 * d.1) ?_
    grind

theorem not_square {p a : Nat} (hp : Pr p) (h : a * a = p) : False := by
  rcases hp.2 a ⟨a, h.symm⟩ with e | e
  · subst e; have := hp.1; omega
  · subst e
    have h1 := hp.1
    have := Nat.mul_le_mul_left a h1
    omega

theorem twoIs_of {p a b : Nat} (hc : ¬ Composed p) (h2 : 2 ≤ p) (a0 : 0 < a) (ab : a ≤ b) (h : a * a + b * b = p) : TwoIs p (.returned (.tuple #[.int .i64 a, .int .i64 b, .int .i64 0])) := by
  have hp := pr_of h2 hc
  have hm := Nat.mul_le_mul ab ab
  refine .inr (.inl ⟨hc, a, b, a0, by rw [Nat.mul_assoc]; omega, h, fun a' b' h0 h1 h3 => ?_, rfl⟩)
  have hl : a' * a' < a * a := Nat.mul_lt_mul_of_lt_of_lt h1 h1
  have hle : a' ≤ b' := sq_mono (by omega)
  have := (two_one hp h3 h h0 hle a0 ab).1
  omega
end Go.Proofs.Ytgkpcjopedleeaa
