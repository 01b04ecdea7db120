/- What the document's Put answers. -/
import Derived.Test.YtgdmjngajjoliaaDoorWP
namespace Go.Proofs.YtgdmjngajjoliaaDoor
open Go.RowKit
set_option linter.unusedVariables false

theorem tl_zero (f : Nat → Int) (n j : Nat) (h1 : tl f n ≤ j) (h2 : j < n) : f j = 0 := by
  induction n with
  | zero => omega
  | succ n ih =>
    unfold tl at h1
    split at h1
    · rename_i h
      by_cases e : j = n
      · subst e; exact h
      · exact ih h1 (by omega)
    · omega

theorem lm_tl (f : Nat → Int) (n j : Nat) : lm f (tl f n) j = lm f n j := by
  have := tl_le f n
  by_cases h : j < tl f n
  · rw [lm_in h, lm_in (by omega)]
  · rw [lm_out (by omega)]
    by_cases h2 : j < n
    · rw [lm_in h2, tl_zero f n j (by omega) h2]
    · rw [lm_out (by omega)]

theorem bitLen_le64' {x : Int} (h : 0 ≤ x ∧ x < B64) : bitLen x.toNat ≤ 64 := by
  have sp := bitLen_spec x.toNat
  rcases Nat.lt_or_ge 64 (bitLen x.toNat) with c2 | c2
  · exfalso
    have hne : x.toNat ≠ 0 := by intro z; rw [z] at c2; simp [bitLen] at c2
    have h2 := sp.2 hne
    have h3 : 2 ^ 64 ≤ 2 ^ (bitLen x.toNat - 1) := Nat.pow_le_pow_right (by decide) (by omega)
    rw [B64_eq] at h
    omega
  · exact c2

theorem sz_le8 {f : Nat → Int} {n : Nat} (r : Rg f n) : sz f n ≤ 8 * tl f n := by
  unfold sz
  have t := tl_le f n
  split
  · omega
  · have b := bitLen_le64' (r (tl f n - 1) (by omega))
    omega

/-- Above its size a number's bytes are 0. -/
theorem byt_zero {f : Nat → Int} {n i : Nat} (r : Rg f n) (h : sz f n ≤ i) : byt f n i = 0 := by
  unfold byt
  rw [← lm_tl]
  by_cases h1 : i / 8 < tl f n
  · have t := tl_le f n
    rw [lm_in h1]
    unfold sz at h
    rw [if_neg (by omega)] at h
    have e : i / 8 = tl f n - 1 := by omega
    rw [e]
    have rr := r (tl f n - 1) (by omega)
    obtain ⟨X, hX⟩ := Int.eq_ofNat_of_zero_le rr.1
    rw [hX] at h ⊢
    rw [Int.toNat_natCast] at h
    have sp := (bitLen_spec X).1
    have hb : bitLen X ≤ 8 * (i % 8) := by omega
    have : X < 2 ^ (8 * (i % 8)) := Nat.lt_of_lt_of_le sp (Nat.pow_le_pow_right (by decide) hb)
    have e2 : (X : Int) / 2 ^ (8 * (i % 8)) = 0 := Int.ediv_eq_zero_of_lt (by omega) (by exact_mod_cast this)
    rw [e2]; rfl
  · rw [lm_out (by omega)]; simp

/-- The byte on top is not 0. -/
theorem byt_top {f : Nat → Int} {n : Nat} (r : Rg f n) (h : 0 < sz f n) : byt f n (sz f n - 1) ≠ 0 := by
  have t := tl_le f n
  unfold sz at *
  by_cases h0 : tl f n = 0
  · rw [if_pos h0] at h; omega
  · rw [if_neg h0] at h ⊢
    have rr := r (tl f n - 1) (by omega)
    have hne : f (tl f n - 1) ≠ 0 := by
      rcases nm_tl f n with a | a
      · exact absurd a h0
      · exact a
    have b64 := bitLen_le64' rr
    obtain ⟨X, hX⟩ := Int.eq_ofNat_of_zero_le rr.1
    have hX0 : X ≠ 0 := by intro z; rw [z] at hX; exact hne (by simpa using hX)
    have sp := bitLen_spec X
    have lo := sp.2 hX0
    have bp : 0 < bitLen X := by
      rcases Nat.eq_zero_or_pos (bitLen X) with c | c
      · rw [c] at sp; simp at sp; omega
      · exact c
    rw [hX, Int.toNat_natCast] at b64 ⊢
    obtain ⟨q, hq⟩ : ∃ q, q = (bitLen X + 7) / 8 := ⟨_, rfl⟩
    rw [← hq]
    unfold byt
    rw [show (8 * (tl f n - 1) + q - 1) / 8 = tl f n - 1 by omega, show (8 * (tl f n - 1) + q - 1) % 8 = q - 1 by omega, lm_in (by omega), hX]
    have e3 : (X : Int) / 2 ^ (8 * (q - 1)) = ((X / 2 ^ (8 * (q - 1)) : Nat) : Int) := by simp
    rw [e3]
    have p1 : 2 ^ (8 * (q - 1)) ≤ X := Nat.le_trans (Nat.pow_le_pow_right (by decide) (by omega)) lo
    have p2 : X < 2 ^ (8 * (q - 1)) * 256 := by
      have := Nat.lt_of_lt_of_le sp.1 (Nat.pow_le_pow_right (show 0 < 2 by decide) (show bitLen X ≤ 8 * (q - 1) + 8 by omega))
      rw [Nat.pow_add] at this
      exact this
    have pp : 0 < 2 ^ (8 * (q - 1)) := Nat.pow_pos (by decide)
    have d1 : 1 ≤ X / 2 ^ (8 * (q - 1)) := (Nat.le_div_iff_mul_le pp).2 (by omega)
    have d2 : X / 2 ^ (8 * (q - 1)) < 256 := (Nat.div_lt_iff_lt_mul pp).2 (by rw [Nat.mul_comm]; exact p2)
    omega

theorem refPut_out (p : Option Addr) (m cap : Nat) (f : Nat → Int) (n : Int) (w : World) (hn : m ≤ cap) (hcap : cap ≤ 9223372036854775807) (hc : At w p m f) (hN : m ≤ 100000) (hb : n < 0 ∨ 192 < n) :
    Calls Tryd.prog 61 #[.slice p m cap, .int .i64 n] w fun e w' => e = .returned (.tuple #[.slice none 0 0, .int .i64 8]) ∧ Below w.heap.size w w' := by
  have C : Hid _ := cut_any p m cap f w hn hcap hc (by omega)
  rcases hb with hb | hb
  · go_enter Tryd.func61, Tryd.ntmps61
    go_wp2_with fail
    refine Calls.mono C.out ?_
    rintro e w1 ⟨p1, c1, rfl, B1, a1, l1, l1'⟩
    go_wp2
    go_ret2
    exact ⟨rfl, B1⟩
  · go_enter Tryd.func61, Tryd.ntmps61
    go_wp2_with fail
    refine Calls.mono C.out ?_
    rintro e w1 ⟨p1, c1, rfl, B1, a1, l1, l1'⟩
    have hb2 : ¬ n < 0 := by omega
    go_wp2
    go_ret2
    exact ⟨rfl, B1⟩

theorem refPut_short (p : Option Addr) (m cap n : Nat) (f : Nat → Int) (w : World) (hn : m ≤ cap) (hcap : cap ≤ 9223372036854775807) (hc : At w p m f) (rf : Rg f m) (hN : m ≤ 100000) (h1 : n ≤ 192) (h2 : n < sz f m) :
    Calls Tryd.prog 61 #[.slice p m cap, .int .i64 n] w fun e w' => e = .returned (.tuple #[.slice none 0 0, .int .i64 8]) ∧ Below w.heap.size w w' := by
  have C : Hid _ := cut_any p m cap f w hn hcap hc (by omega)
  have top : Hid _ := byt_top rf (by omega)
  have s8 := sz_le8 rf
  have tm := tl_le f m
  have byte : ∀ i, i / 8 < tl f m → Hid (f (i / 8) / 2 ^ (8 * (i % 8)) % 256 = byt f m i) := fun i hi => by
    show _ = _
    unfold byt; rw [lm_in (by omega)]
  generalize sz f m = s at *
  generalize tl f m = t at *
  go_enter Tryd.func61, Tryd.ntmps61
  go_wp2_with fail
  refine Calls.mono C.out ?_
  rintro e w1 ⟨p1, c1, rfl, B1, a1, l1, l1'⟩
  clear C hc
  have b1 : ¬ (n : Int) < 0 := by omega
  have b2 : ¬ (192 : Int) < (n : Int) := by omega
  go_wp2
  go_loop [6] (fun i => ∃ k : Nat, k < s ∧ i = .int .i64 k) (fun i => s - (intOf i).toNat)
  case atStart => exact ⟨n, by omega, rfl⟩
  case round =>
    obtain ⟨k, hk, rfl⟩ := hrel
    obtain ⟨b, off, rfl, hcell⟩ := a1 (by omega)
    have hc1 := hcell (k / 8) (by omega)
    have BY := byte k (by omega)
    have i2 : (k : Int) / 8 < (t : Int) := by omega
    have i3 : (k : Int) < 8 * (t : Int) := by omega
    clear hcell byte
    by_cases hz : byt f m k = 0
    · have hb0 : (f (k / 8) / 2 ^ (8 * (k % 8)) % 256 == 0) = true := by rw [BY.out, hz]; rfl
      have hb0' : (f (k / 8) / 2 ^ (8 * (k % 8)) % 256 != 0) = false := by rw [BY.out, hz]; rfl
      have hks : k + 1 < s := by
        rcases Nat.lt_or_ge (k + 1) s with c | c
        · exact c
        · exfalso
          have e : k = s - 1 := by omega
          have tt := top.out
          rw [← e] at tt
          exact tt hz
      have HZ : Hid _ := hz
      clear hz
      go_wp2
      go_round
      case rel => exact ⟨k + 1, hks, by go_num⟩
      case measure => simp [intOf]; omega
    · have hb0' : (f (k / 8) / 2 ^ (8 * (k % 8)) % 256 != 0) = true := by rw [BY.out]; simpa using hz
      have HZ : Hid _ := hz
      clear hz
      go_wp2
      go_ret2
      exact ⟨rfl, B1⟩

theorem refPut_any (p : Option Addr) (m cap n : Nat) (f : Nat → Int) (w : World) (hn : m ≤ cap) (hcap : cap ≤ 9223372036854775807) (hc : At w p m f) (rf : Rg f m) (hN : m ≤ 100000) (h1 : n ≤ 192) (h2 : sz f m ≤ n) :
    Calls Tryd.prog 61 #[.slice p m cap, .int .i64 n] w fun e w' => ∃ b, e = .returned (.tuple #[.slice (some ⟨b, 0, none⟩) n n, .int .i64 0]) ∧ Below w.heap.size w w' ∧ MutK .u8 w' b 0 n (fun j => byt f m (n - 1 - j)) := by
  obtain ⟨i0, hi0, hz0, hz1, hz2⟩ := info_parts info8
  have C : Hid _ := cut_any p m cap f w hn hcap hc (by omega)
  have tm := tl_le f m
  have zero : ∀ i, n ≤ i → i / 8 < tl f m → Hid (f (i / 8) / 2 ^ (8 * (i % 8)) % 256 = 0) := fun i hi hi2 => by
    show _ = _
    have := byt_zero rf (i := i) (by omega)
    unfold byt at this; rwa [lm_in (by omega)] at this
  have byte : ∀ i, Hid (lm f (tl f m) (i / 8) / 2 ^ (8 * (i % 8)) % 256 = byt f m i) := fun i => by
    show _ = _
    unfold byt; rw [lm_tl]
  have rl := fun i => lm_rg (rf.mono tm) (i + 1) i (by omega)
  have RL : Hid _ := rl
  clear rl
  generalize tl f m = t at *
  go_enter Tryd.func61, Tryd.ntmps61
  go_wp2_with fail
  refine Calls.mono C.out ?_
  rintro e w1 ⟨p1, c1, rfl, B1, a1, l1, l1'⟩
  clear C hc
  have b1 : ¬ (n : Int) < 0 := by omega
  have b2 : ¬ (192 : Int) < (n : Int) := by omega
  go_wp2
  go_loop [6] (fun i => ∃ k : Nat, n ≤ k ∧ k ≤ 8 * t + 192 ∧ i = .int .i64 k) (fun i => 8 * t + 192 - (intOf i).toNat)
  case atStart => exact ⟨n, by omega, by omega, rfl⟩
  case round =>
    obtain ⟨k, hk, hk2, rfl⟩ := hrel
    by_cases hlt : k < 8 * t
    · obtain ⟨b, off, rfl, hcell⟩ := a1 (by omega)
      have hc1 := hcell (k / 8) (by omega)
      have BY := zero k hk (by omega)
      have i2 : (k : Int) / 8 < (t : Int) := by omega
      have i3 : (k : Int) < 8 * (t : Int) := by omega
      have hb0' : (f (k / 8) / 2 ^ (8 * (k % 8)) % 256 != 0) = false := by rw [BY.out]; rfl
      clear hcell zero byte
      go_wp2
      go_round
      case rel => exact ⟨k + 1, by omega, by omega, by go_num⟩
      case measure => simp [intOf]; omega
    · have i3 : ¬ (k : Int) < 8 * (t : Int) := by omega
      have sz1 := B1.size
      clear zero
      go_wp2_with (at_make; refine wpList_make_lim _ .u8 rfl _ _ 43 5 rfl Tryd.underlying43 i0 hi0 hz0 hz1 (by omega) .i64 .i64 _ _ n rfl rfl (by omega) (by omega) (by omega) ?_; intro w2 hb2 hs2 hm2)
      go_loopw [8] (fun i wr => ∃ (j : Nat) (d : Nat → Int), j ≤ n ∧ i = .int .i64 j ∧ Below w.heap.size w wr ∧ Below w1.heap.size w1 wr ∧ MutK .u8 wr w1.heap.size 0 n d ∧ ∀ x, x < j → d (n - 1 - x) = byt f m x) (fun i _ => n - (intOf i).toNat)
      case atStart => exact ⟨0, Z, Nat.zero_le _, rfl, Below.up B1 (Nat.le_refl _) hb2, hb2, hm2, fun x hx => absurd hx (by omega)⟩
      case round =>
        obtain ⟨j, d, hj, rfl, hbel, hbel1, hm, hd⟩ := hrel
        clear hb2 hs2 hm2
        by_cases hjn : j < n
        · have L : Hid _ := refLimb_any p1 t c1 f (j / 8) wr (by omega) (by omega) (a1.below hbel1)
          obtain ⟨hc0, hz⟩ := hm (n - 1 - j) (by omega)
          rw [Nat.zero_add] at hc0 hz
          have HD : Hid _ := hd
          have BY := byte j
          have i5 : (0 : Int) ≤ (n : Int) - 1 - (j : Int) := by omega
          have i6 : (n : Int) - 1 - (j : Int) < (n : Int) := by omega
          clear hd byte
          go_wp2_with fail
          rw [show (j : Int) / 8 = ((j / 8 : Nat) : Int) from rfl]
          refine Calls.mono L.out ?_
          rintro e w3 ⟨rfl, rfl⟩
          go_wp2
          go_roundw
          case rel =>
            refine ⟨j + 1, up d (n - 1 - j) (byt f m j), by omega, by go_num, hbel.setCell (by exact sz1) _, hbel1.setCell (Nat.le_refl _) _, ?_, ?_⟩
            · rw [BY.out]; exact hm.set0 (by omega) _
            · intro x hx
              by_cases e : x = j
              · subst e; rw [up_at]
              · rw [up_ne (by omega)]; exact HD.out x (by omega)
          case measure => simp [intOf]; omega
        · have e : n = j := by omega
          subst e
          have HB : Hid _ := hbel
          have HM : Hid _ := hm
          have HD : Hid _ := hd
          clear hbel hm hd hbel1
          go_wp2
          go_ret2
          exact ⟨_, rfl, HB.out, MutK.congr HM.out fun x hx => by have := HD.out (n - 1 - x) (by omega); rwa [show n - 1 - (n - 1 - x) = x by omega] at this⟩
end Go.Proofs.YtgdmjngajjoliaaDoor
