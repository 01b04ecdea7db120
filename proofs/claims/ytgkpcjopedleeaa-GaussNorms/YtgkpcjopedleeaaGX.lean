/- The walk of GaussGcds, package gauss answering as it should. -/
import Derived.Test.YtgkpcjopedleeaaGW
namespace Go.Proofs.Ytgkpcjopedleeaa
open Go.RowKit
set_option linter.unusedVariables false

/-- Parts of 99 at most. -/
def Sm (a : Gz) : Prop := a.1.natAbs ≤ 99 ∧ a.2.natAbs ≤ 99
theorem Sm.wh {a : Gz} (h : Sm a) : Wh a := ⟨by have := h.1; omega, by have := h.2; omega⟩

theorem tmod_small (a : Int) : Int.tmod (Int.tmod a 100) 500 = Int.tmod a 100 ∧ (Int.tmod a 100).natAbs ≤ 99 := by
  have h : (Int.tmod a 100).natAbs ≤ 99 := by
    rw [Int.natAbs_tmod]
    have := Nat.mod_lt a.natAbs (show (100 : Int).natAbs > 0 by decide)
    have e : (100 : Int).natAbs = 100 := rfl
    omega
  refine ⟨?_, h⟩
  rcases Int.le_total 0 (Int.tmod a 100) with e | e
  · exact Int.tmod_eq_of_lt e (by omega)
  · rw [← Int.neg_inj, ← Int.neg_tmod]
    exact Int.tmod_eq_of_lt (by omega) (by omega)

theorem abs_sq (x : Int) : x * x = ((x.natAbs * x.natAbs : Nat) : Int) := by
  rw [Int.natCast_mul, ← Int.natAbs_mul_self' x]

theorem sq_le {x : Int} {n : Nat} (h : x.natAbs ≤ n) : x * x ≤ (n : Int) * n := by
  rw [abs_sq, ← Int.natCast_mul]
  have := Nat.mul_le_mul h h
  omega
theorem le_of_sq {x : Int} {n : Nat} (h : x * x ≤ (n : Int) * n) : x.natAbs ≤ n := by
  rw [abs_sq, ← Int.natCast_mul] at h
  exact sq_mono (by omega)

theorem Sm.norm {a : Gz} (h : Sm a) : gn a ≤ 19602 := by
  have h1 := sq_le h.1; have h2 := sq_le h.2
  show a.1 * a.1 + a.2 * a.2 ≤ _
  omega

theorem part_le {a : Gz} {n : Nat} (h : gn a ≤ (n : Int) * n) : a.1.natAbs ≤ n ∧ a.2.natAbs ≤ n := by
  have h1 := sq_nonneg a.1; have h2 := sq_nonneg a.2
  have h3 : a.1 * a.1 + a.2 * a.2 ≤ (n : Int) * n := h
  exact ⟨le_of_sq (by omega), le_of_sq (by omega)⟩

theorem Sm.mul {a b : Gz} (ha : Sm a) (hb : Sm b) : gn (gm a b) ≤ 19602 * 19602 ∧ Wh (gm a b) := by
  have e : gn (gm a b) ≤ 19602 * 19602 := by
    rw [gn_mul]
    exact Int.mul_le_mul ha.norm hb.norm (gn_nonneg b) (by decide)
  have := part_le (n := 19602) e
  exact ⟨e, by have := this.1; omega, by have := this.2; omega⟩

theorem gd_le {g x : Gz} (h : gd g x) (h0 : x ≠ (0, 0)) : gn g ≤ gn x := by
  obtain ⟨c, rfl⟩ := h
  have hc : c ≠ (0, 0) := fun e => h0 (by rw [e, gm_zero])
  have := gn_pos hc
  rw [gn_mul]
  have := Int.mul_le_mul_of_nonneg_left (show (1 : Int) ≤ gn c by omega) (gn_nonneg g)
  omega

theorem IsGcd.of_zero {g : Gz} (h : IsGcd g (0, 0) (0, 0)) : g = (0, 0) := by
  obtain ⟨-, -, s, t, e⟩ := h
  rw [e, gm_zero, gm_zero]; rfl
theorem IsGcd.is_zero {x y : Gz} (h : IsGcd (0, 0) x y) : x = (0, 0) ∧ y = (0, 0) := by
  obtain ⟨⟨c, hc⟩, ⟨d, hd⟩, -⟩ := h
  exact ⟨by rw [hc, gm_comm, gm_zero], by rw [hd, gm_comm, gm_zero]⟩
theorem IsGcd.le {g x y : Gz} {n : Int} (h : IsGcd g x y) (hx : gn x ≤ n) (hy : gn y ≤ n) (hn : 0 ≤ n) : gn g ≤ n := by
  by_cases h0 : x = (0, 0)
  · by_cases h1 : y = (0, 0)
    · subst h0; subst h1; rw [h.of_zero]; exact hn
    · have := gd_le h.2.1 h1; omega
  · have := gd_le h.1 h0; omega

theorem near_exact (c n : Int) (hn : 0 < n) : near (c * n) n = c := by
  unfold near
  have e : 2 * (c * n) + n = n + c * (2 * n) := by grind
  rw [e, Int.add_mul_ediv_right _ _ (by omega), Int.ediv_eq_zero_of_lt (by omega) (by omega), Int.zero_add]

theorem gq_exact {b c : Gz} (h : b ≠ (0, 0)) : gq (gm b c) b = c ∧ gs (gm b c) (gm (gq (gm b c) b) b) = (0, 0) := by
  have hp := gn_pos h
  have e : gm (gm b c) (gc b) = (c.1 * gn b, c.2 * gn b) := by apply gext <;> simp only [gm, gc, gn] <;> grind
  have q : gq (gm b c) b = c := by
    unfold gq
    rw [e]
    apply gext <;> exact near_exact _ _ hp
  refine ⟨q, ?_⟩
  rw [q, gm_comm c b]
  apply gext <;> simp only [gs] <;> omega

theorem eqz (x : Int) (h : x.natAbs < 2 ^ 53) : (FloatKind.f64.format.order (fi x) 0 == some .eq) = decide (x = 0) := by
  have := IsF.eq (IsF.fi h) (IsF.fi (x := 0) (by decide))
  rw [fi0] at this
  exact this
theorem gtz (x : Int) (h : x.natAbs < 2 ^ 53) : (FloatKind.f64.format.order (fi x) 0 == some .gt) = decide (0 < x) := by
  have := IsF.gt (IsF.fi h) (IsF.fi (x := 0) (by decide))
  rw [fi0] at this
  exact this
theorem eqs (x : Int) (h : x.natAbs < 2 ^ 53) : (FloatKind.f64.format.order (fi x) (fi x) == some .eq) = true := by
  have := IsF.eq (IsF.fi h) (IsF.fi h)
  rw [decide_eq_true rfl] at this
  exact this

set_option maxRecDepth 8000 in
set_option maxHeartbeats 1600000 in
theorem gaussGcds_at (K : GaOk) (a b c d e f : Int) (w : World) : Calls Try.prog 5 #[.int .i64 a, .int .i64 b, .int .i64 c, .int .i64 d, .int .i64 e, .int .i64 f] w fun e w' => e = .returned (.bool true) ∧ Below w.heap.size w w' := by
  have HB : Hid _ := gaBegun K
  have nx := fun w => number_any (Int.tmod a 100) (Int.tmod b 100) w
  have ny := fun w => number_any (Int.tmod c 100) (Int.tmod d 100) w
  have nz := fun w => number_any (Int.tmod e 100) (Int.tmod f 100) w
  obtain ⟨ea, la⟩ := tmod_small a
  obtain ⟨eb, lb⟩ := tmod_small b
  obtain ⟨ec, lc⟩ := tmod_small c
  obtain ⟨ed, ld⟩ := tmod_small d
  obtain ⟨ee, le⟩ := tmod_small e
  obtain ⟨ef, lf⟩ := tmod_small f
  rw [ea, eb] at nx
  rw [ec, ed] at ny
  rw [ee, ef] at nz
  obtain ⟨x, hx⟩ : ∃ x : Gz, x = (Int.tmod a 100, Int.tmod b 100) := ⟨_, rfl⟩
  obtain ⟨y, hy⟩ : ∃ y : Gz, y = (Int.tmod c 100, Int.tmod d 100) := ⟨_, rfl⟩
  obtain ⟨z, hz⟩ : ∃ z : Gz, z = (Int.tmod e 100, Int.tmod f 100) := ⟨_, rfl⟩
  have SX : Hid (Sm x) := by subst hx; exact ⟨la, lb⟩
  have SY : Hid (Sm y) := by subst hy; exact ⟨lc, ld⟩
  have SZ : Hid (Sm z) := by subst hz; exact ⟨le, lf⟩
  have NX : Hid (∀ w, Calls Try.prog 9 #[.int .i64 (Int.tmod a 100), .int .i64 (Int.tmod b 100)] w fun e w' => e = .returned (gv x) ∧ w' = w) := by subst hx; exact nx
  have NY : Hid (∀ w, Calls Try.prog 9 #[.int .i64 (Int.tmod c 100), .int .i64 (Int.tmod d 100)] w fun e w' => e = .returned (gv y) ∧ w' = w) := by subst hy; exact ny
  have NZ : Hid (∀ w, Calls Try.prog 9 #[.int .i64 (Int.tmod e 100), .int .i64 (Int.tmod f 100)] w fun e w' => e = .returned (gv z) ∧ w' = w) := by subst hz; exact nz
  have HK : Hid _ := K
  clear K nx ny nz ea la eb lb ec lc ed ld ee le ef lf hx hy hz
  unfold gv at NX NY NZ
  go_enter Try.func5, Try.ntmps5
  go_wp2_with fail
  refine Calls.mono (HB.out _) ?_
  rintro e w1 ⟨rfl, b1⟩
  clear HB
  go_wp2_with fail
  refine Calls.mono (NX.out _) ?_
  rintro e w' ⟨rfl, rfl⟩
  go_wp2_with fail
  refine Calls.mono (NY.out _) ?_
  rintro e w' ⟨rfl, rfl⟩
  go_wp2_with fail
  refine Calls.mono (NZ.out _) ?_
  rintro e w' ⟨rfl, rfl⟩
  clear NX NY NZ
  have KG := fun w => HK.out.gcd x y w SX.out.wh SY.out.wh
  unfold gv at KG
  go_wp2_with fail
  refine Calls.mono (KG _) ?_
  clear KG
  rintro e w2 ⟨g, rfl, ig, fg, b2⟩
  have c2 := Below.up b1 (Nat.le_refl _) b2
  have IG : Hid (IsGcd g x y) := ig
  have FG : Hid (First g) := fg
  have KM := fun w => HK.out.mul x z w SX.out.wh SZ.out.wh
  have KN := fun w => HK.out.mul y z w SY.out.wh SZ.out.wh
  unfold gv at KM KN
  clear b1 b2 ig fg
  go_wp2_with fail
  refine Calls.mono (KM _) ?_
  clear KM
  rintro e w3 ⟨rfl, b3⟩
  have c3 := Below.up c2 (Nat.le_refl _) b3
  clear c2 b3
  go_wp2_with fail
  refine Calls.mono (KN _) ?_
  clear KN
  rintro e w4 ⟨rfl, b4⟩
  have c4 := Below.up c3 (Nat.le_refl _) b4
  clear c3 b4
  have KG := fun w => HK.out.gcd (gm x z) (gm y z) w (SX.out.mul SZ.out).2 (SY.out.mul SZ.out).2
  unfold gv at KG
  go_wp2_with fail
  refine Calls.mono (KG _) ?_
  clear KG
  rintro e w5 ⟨h, rfl, ih, fh, b5⟩
  have c5 := Below.up c4 (Nat.le_refl _) b5
  clear c4 b5
  have ng : gn g ≤ 19602 := IG.out.le SX.out.norm SY.out.norm (by decide)
  have nh : gn h ≤ 19602 * 19602 := ih.le (SX.out.mul SZ.out).1 (SY.out.mul SZ.out).1 (by decide)
  have pg := part_le (a := g) (n := 141) (by have : ((141 : Nat) : Int) * 141 = 19881 := by decide
                                             omega)
  have ph := part_le (a := h) (n := 19602) nh
  have NN : Hid (gn h = gn g * gn z) := by
    have := (IG.out.mul z).norm ih
    rw [gn_mul] at this
    exact this.symm
  have z1 := eqz g.1 (by omega)
  have z2 := eqz g.2 (by omega)
  have IH : Hid (IsGcd h (gm x z) (gm y z)) := ih
  have NG : Hid _ := ng
  have NH : Hid _ := nh
  have WG : Hid (Wh g) := ⟨by have := pg.1; omega, by have := pg.2; omega⟩
  have WH : Hid (Wh h) := ⟨by have := ph.1; omega, by have := ph.2; omega⟩
  clear ih fh ng nh
  by_cases g0 : g = (0, 0)
  · have xy := (show IsGcd (0, 0) x y by rw [← g0]; exact IG.out).is_zero
    have h0 : h = (0, 0) := by
      have t := IH.out
      rw [xy.1, xy.2, gm_comm, gm_zero] at t
      exact IsGcd.of_zero t
    obtain ⟨rfl, rfl⟩ := xy
    subst g0
    subst h0
    rw [decide_eq_true rfl] at z1
    clear z2 pg ph NN
    have C5 : Hid _ := c5
    clear c5 IG FG IH NG NH WG WH SX SY SZ HK
    go_wp2
    go_ret
    exact ⟨rfl, C5.out⟩
  · have f1 : 0 < g.1 ∧ 0 ≤ g.2 := FG.out.resolve_left g0
    rw [decide_eq_false (by omega)] at z1
    have z3 := gtz g.1 (by omega)
    rw [decide_eq_true f1.1] at z3
    have z4 := gtz g.2 (by omega)
    have z5 := eqs g.1 (by omega)
    have z6 := eqs g.2 (by omega)
    have z7 := eqz 0 (by decide)
    rw [decide_eq_true rfl] at z7
    have dx : gs x (gm (gq x g) g) = (0, 0) := by
      obtain ⟨k, hk⟩ := IG.out.1
      rw [hk]; exact (gq_exact g0).2
    have dy : gs y (gm (gq y g) g) = (0, 0) := by
      obtain ⟨k, hk⟩ := IG.out.2.1
      rw [hk]; exact (gq_exact g0).2
    have DX := fun w => HK.out.div x g w SX.out.wh WG.out g0
    have DY := fun w => HK.out.div y g w SY.out.wh WG.out g0
    rw [dx] at DX
    rw [dy] at DY
    unfold gv at DX DY
    have N1 := fun w => HK.out.norm h w WH.out
    have N2 := fun w => HK.out.norm g w WG.out
    have N3 := fun w => HK.out.norm z w SZ.out.wh
    have G3 := fun w => HK.out.gcd y x w SY.out.wh SX.out.wh
    unfold gv at N1 N2 N3 G3
    have wr : IntKind.i64.wrap (gn g * gn z) = gn h := by
      have := gn_nonneg h; have := NH.out
      rw [← NN.out, wrap_small (by omega) (by omega)]
    have HDX : Hid _ := DX
    have HDY : Hid _ := DY
    have HN1 : Hid _ := N1
    have HN2 : Hid _ := N2
    have HN3 : Hid _ := N3
    have HG3 : Hid _ := G3
    have HWR : Hid _ := wr
    clear DX DY N1 N2 N3 G3 dx dy wr pg ph NN
    have G2 : Hid (0 ≤ g.2) := f1.2
    clear f1 g0
    have C5 : Hid _ := c5
    clear c5
    have fin : (FloatKind.f64.format.order (fi g.2) 0 == some .gt) = true ∨ ((FloatKind.f64.format.order (fi g.2) 0 == some .gt) = false ∧ (FloatKind.f64.format.order (fi g.2) 0 == some .eq) = true) := by
      rcases (show 0 < g.2 ∨ g.2 = 0 by have := G2.out; omega) with p | p
      · left; rw [z4]; exact decide_eq_true p
      · right; rw [z4, z2]; exact ⟨decide_eq_false (by omega), decide_eq_true p⟩
    clear z4 z2
    rcases fin with z4 | ⟨z4, z2⟩
    all_goals
      go_wp2_with fail
      refine Calls.mono (HDX.out _) ?_
      rintro e w6 ⟨rfl, b6⟩
      have c6 := Below.up C5.out (Nat.le_refl _) b6
      clear b6
      go_wp2_with fail
      refine Calls.mono (HDY.out _) ?_
      rintro e w7 ⟨rfl, b7⟩
      have c7 := Below.up c6 (Nat.le_refl _) b7
      clear b7 c6
      go_wp2_with fail
      refine Calls.mono (HN1.out _) ?_
      rintro e w8 ⟨rfl, b8⟩
      have c8 := Below.up c7 (Nat.le_refl _) b8
      clear b8 c7
      go_wp2_with fail
      refine Calls.mono (HN2.out _) ?_
      rintro e w9 ⟨rfl, b9⟩
      have c9 := Below.up c8 (Nat.le_refl _) b9
      clear b9 c8
      go_wp2_with fail
      refine Calls.mono (HN3.out _) ?_
      rintro e w10 ⟨rfl, b10⟩
      have c10 := Below.up c9 (Nat.le_refl _) b10
      clear b10 c9
      have wr := HWR.out
      go_wp2_with fail
      refine Calls.mono (HG3.out _) ?_
      rintro e w11 ⟨g', rfl, ig, fg, b11⟩
      obtain rfl := IsGcd.one IG.out ig.comm FG.out fg
      have C11 : Hid _ := Below.up c10 (Nat.le_refl _) b11
      clear c10 b11 ig fg
      go_wp2
      go_ret
      exact ⟨rfl, C11.out⟩
end Go.Proofs.Ytgkpcjopedleeaa
