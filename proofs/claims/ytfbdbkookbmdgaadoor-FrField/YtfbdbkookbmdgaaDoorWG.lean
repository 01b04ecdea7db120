/- What math/bits.Len64 and limb.size answer, for every call. -/
import Derived.Test.YtfbdbkookbmdgaaDoorWF
namespace Go.Proofs.YtfbdbkookbmdgaaDoor
open Go.RowKit

theorem ret_int {k : IntKind} {a b : Int} (h : a = b) : Ending.returned (.int k a) = .returned (.int k b) := by rw [h]

theorem len_of (x y : Int) (n : Nat) (hx : 0 ≤ x) (hy : y = x / 2 ^ n) (h1 : 0 < y ∨ n = 0) : bitLen x.toNat = n + bitLen y.toNat := by
  obtain ⟨X, rfl⟩ := Int.eq_ofNat_of_zero_le hx
  have e : y = ((X / 2 ^ n : Nat) : Int) := by rw [hy]; simp
  rcases h1 with h1 | h1
  · rw [e, Int.toNat_natCast, Int.toNat_natCast]
    refine bitLen_shift X n ?_
    intro h0
    rw [h0] at e
    simp at e
    omega
  · subst h1
    rw [e]; simp

theorem len_close (n m : Nat) (hn : n ≤ 56) (hm : m ≤ 8) : wrap64 ((n : Int) + wrap64 (m : Int)) = ((n + m : Nat) : Int) := by
  simp only [wrap64]; omega
theorem len_close0 (m : Nat) (hm : m ≤ 8) : wrap64 (wrap64 (m : Int)) = ((0 + m : Nat) : Int) := by
  simp only [wrap64]; omega

set_option maxRecDepth 100000 in
theorem len64_000 (x : Int) (w : World) (h0 : 0 ≤ x) (hx : x < 18446744073709551616) (_h1 : x < 4294967296) (_h2 : x < 65536) (_h3 : x < 256) :
    Calls Tryd.prog 74 #[.int .u64 x] w fun e w' => e = .returned (.int .i64 (bitLen x.toNat)) ∧ w' = w := by
  have hy0 : 0 ≤ x := by omega
  have hy1 : x < 256 := by omega
  have E : Hid _ := len_of x (x) 0 h0 (by show _ = x / 1; omega) (by omega)
  have L : Hid _ := bitLen_le8 (x).toNat (by omega)
  have HX : Hid _ := hx
  clear hx
  go_enter Tryd.func74, Tryd.ntmps74
  go_wp2
  go_ret
  rw [E.out]
  refine ⟨ret_int ?_, rfl⟩
  exact (congrArg (fun q : Nat => wrap64 (wrap64 (q : Int))) (len8tab_get (x).toNat (show _ < 256 by omega))).trans (len_close0 _ L.out)

set_option maxRecDepth 100000 in
theorem len64_001 (x : Int) (w : World) (h0 : 0 ≤ x) (hx : x < 18446744073709551616) (_h1 : x < 4294967296) (_h2 : x < 65536) (_h3 : 256 ≤ x) :
    Calls Tryd.prog 74 #[.int .u64 x] w fun e w' => e = .returned (.int .i64 (bitLen x.toNat)) ∧ w' = w := by
  have hy0 : 0 ≤ x / 256 := by omega
  have hy1 : x / 256 < 256 := by omega
  have E : Hid _ := len_of x (x / 256) 8 h0 (by show _ = x / 256; omega) (by omega)
  have L : Hid _ := bitLen_le8 (x / 256).toNat (by omega)
  have HX : Hid _ := hx
  clear hx
  go_enter Tryd.func74, Tryd.ntmps74
  go_wp2
  go_ret
  rw [E.out]
  refine ⟨ret_int ?_, rfl⟩
  exact (congrArg (fun q : Nat => wrap64 (8 + wrap64 (q : Int))) (len8tab_get (x / 256).toNat (show _ < 256 by omega))).trans (len_close 8 _ (by decide) L.out)

set_option maxRecDepth 100000 in
theorem len64_010 (x : Int) (w : World) (h0 : 0 ≤ x) (hx : x < 18446744073709551616) (_h1 : x < 4294967296) (_h2 : 65536 ≤ x) (_h3 : x / 65536 < 256) :
    Calls Tryd.prog 74 #[.int .u64 x] w fun e w' => e = .returned (.int .i64 (bitLen x.toNat)) ∧ w' = w := by
  have hy0 : 0 ≤ x / 65536 := by omega
  have hy1 : x / 65536 < 256 := by omega
  have E : Hid _ := len_of x (x / 65536) 16 h0 (by show _ = x / 65536; omega) (by omega)
  have L : Hid _ := bitLen_le8 (x / 65536).toNat (by omega)
  have HX : Hid _ := hx
  clear hx
  go_enter Tryd.func74, Tryd.ntmps74
  go_wp2
  go_ret
  rw [E.out]
  refine ⟨ret_int ?_, rfl⟩
  exact (congrArg (fun q : Nat => wrap64 (16 + wrap64 (q : Int))) (len8tab_get (x / 65536).toNat (show _ < 256 by omega))).trans (len_close 16 _ (by decide) L.out)

set_option maxRecDepth 100000 in
theorem len64_011 (x : Int) (w : World) (h0 : 0 ≤ x) (hx : x < 18446744073709551616) (_h1 : x < 4294967296) (_h2 : 65536 ≤ x) (_h3 : 256 ≤ x / 65536) :
    Calls Tryd.prog 74 #[.int .u64 x] w fun e w' => e = .returned (.int .i64 (bitLen x.toNat)) ∧ w' = w := by
  have hy0 : 0 ≤ x / 65536 / 256 := by omega
  have hy1 : x / 65536 / 256 < 256 := by omega
  have E : Hid _ := len_of x (x / 65536 / 256) 24 h0 (by show _ = x / 16777216; omega) (by omega)
  have L : Hid _ := bitLen_le8 (x / 65536 / 256).toNat (by omega)
  have HX : Hid _ := hx
  clear hx
  go_enter Tryd.func74, Tryd.ntmps74
  go_wp2
  go_ret
  rw [E.out]
  refine ⟨ret_int ?_, rfl⟩
  exact (congrArg (fun q : Nat => wrap64 (24 + wrap64 (q : Int))) (len8tab_get (x / 65536 / 256).toNat (show _ < 256 by omega))).trans (len_close 24 _ (by decide) L.out)

set_option maxRecDepth 100000 in
theorem len64_100 (x : Int) (w : World) (h0 : 0 ≤ x) (hx : x < 18446744073709551616) (_h1 : 4294967296 ≤ x) (_h2 : x / 4294967296 < 65536) (_h3 : x / 4294967296 < 256) :
    Calls Tryd.prog 74 #[.int .u64 x] w fun e w' => e = .returned (.int .i64 (bitLen x.toNat)) ∧ w' = w := by
  have hy0 : 0 ≤ x / 4294967296 := by omega
  have hy1 : x / 4294967296 < 256 := by omega
  have E : Hid _ := len_of x (x / 4294967296) 32 h0 (by show _ = x / 4294967296; omega) (by omega)
  have L : Hid _ := bitLen_le8 (x / 4294967296).toNat (by omega)
  have HX : Hid _ := hx
  clear hx
  go_enter Tryd.func74, Tryd.ntmps74
  go_wp2
  go_ret
  rw [E.out]
  refine ⟨ret_int ?_, rfl⟩
  exact (congrArg (fun q : Nat => wrap64 (32 + wrap64 (q : Int))) (len8tab_get (x / 4294967296).toNat (show _ < 256 by omega))).trans (len_close 32 _ (by decide) L.out)

set_option maxRecDepth 100000 in
theorem len64_101 (x : Int) (w : World) (h0 : 0 ≤ x) (hx : x < 18446744073709551616) (_h1 : 4294967296 ≤ x) (_h2 : x / 4294967296 < 65536) (_h3 : 256 ≤ x / 4294967296) :
    Calls Tryd.prog 74 #[.int .u64 x] w fun e w' => e = .returned (.int .i64 (bitLen x.toNat)) ∧ w' = w := by
  have hy0 : 0 ≤ x / 4294967296 / 256 := by omega
  have hy1 : x / 4294967296 / 256 < 256 := by omega
  have E : Hid _ := len_of x (x / 4294967296 / 256) 40 h0 (by show _ = x / 1099511627776; omega) (by omega)
  have L : Hid _ := bitLen_le8 (x / 4294967296 / 256).toNat (by omega)
  have HX : Hid _ := hx
  clear hx
  go_enter Tryd.func74, Tryd.ntmps74
  go_wp2
  go_ret
  rw [E.out]
  refine ⟨ret_int ?_, rfl⟩
  exact (congrArg (fun q : Nat => wrap64 (40 + wrap64 (q : Int))) (len8tab_get (x / 4294967296 / 256).toNat (show _ < 256 by omega))).trans (len_close 40 _ (by decide) L.out)

set_option maxRecDepth 100000 in
theorem len64_110 (x : Int) (w : World) (h0 : 0 ≤ x) (hx : x < 18446744073709551616) (_h1 : 4294967296 ≤ x) (_h2 : 65536 ≤ x / 4294967296) (_h3 : x / 4294967296 / 65536 < 256) :
    Calls Tryd.prog 74 #[.int .u64 x] w fun e w' => e = .returned (.int .i64 (bitLen x.toNat)) ∧ w' = w := by
  have hy0 : 0 ≤ x / 4294967296 / 65536 := by omega
  have hy1 : x / 4294967296 / 65536 < 256 := by omega
  have E : Hid _ := len_of x (x / 4294967296 / 65536) 48 h0 (by show _ = x / 281474976710656; omega) (by omega)
  have L : Hid _ := bitLen_le8 (x / 4294967296 / 65536).toNat (by omega)
  have HX : Hid _ := hx
  clear hx
  go_enter Tryd.func74, Tryd.ntmps74
  go_wp2
  go_ret
  rw [E.out]
  refine ⟨ret_int ?_, rfl⟩
  exact (congrArg (fun q : Nat => wrap64 (48 + wrap64 (q : Int))) (len8tab_get (x / 4294967296 / 65536).toNat (show _ < 256 by omega))).trans (len_close 48 _ (by decide) L.out)

set_option maxRecDepth 100000 in
theorem len64_111 (x : Int) (w : World) (h0 : 0 ≤ x) (hx : x < 18446744073709551616) (_h1 : 4294967296 ≤ x) (_h2 : 65536 ≤ x / 4294967296) (_h3 : 256 ≤ x / 4294967296 / 65536) :
    Calls Tryd.prog 74 #[.int .u64 x] w fun e w' => e = .returned (.int .i64 (bitLen x.toNat)) ∧ w' = w := by
  have hy0 : 0 ≤ x / 4294967296 / 65536 / 256 := by omega
  have hy1 : x / 4294967296 / 65536 / 256 < 256 := by omega
  have E : Hid _ := len_of x (x / 4294967296 / 65536 / 256) 56 h0 (by show _ = x / 72057594037927936; omega) (by omega)
  have L : Hid _ := bitLen_le8 (x / 4294967296 / 65536 / 256).toNat (by omega)
  have HX : Hid _ := hx
  clear hx
  go_enter Tryd.func74, Tryd.ntmps74
  go_wp2
  go_ret
  rw [E.out]
  refine ⟨ret_int ?_, rfl⟩
  exact (congrArg (fun q : Nat => wrap64 (56 + wrap64 (q : Int))) (len8tab_get (x / 4294967296 / 65536 / 256).toNat (show _ < 256 by omega))).trans (len_close 56 _ (by decide) L.out)

theorem len64_any (x : Int) (w : World) (hx : 0 ≤ x ∧ x < B64) :
    Calls Tryd.prog 74 #[.int .u64 x] w fun e w' => e = .returned (.int .i64 (bitLen x.toNat)) ∧ w' = w := by
  rw [B64_eq] at hx
  by_cases h1 : 4294967296 ≤ x
  · by_cases h2 : 65536 ≤ x / 4294967296
    · by_cases h3 : 256 ≤ x / 4294967296 / 65536
      · exact len64_111 x w hx.1 hx.2 h1 h2 h3
      · exact len64_110 x w hx.1 hx.2 h1 h2 (by omega)
    · by_cases h3 : 256 ≤ x / 4294967296
      · exact len64_101 x w hx.1 hx.2 h1 (by omega) h3
      · exact len64_100 x w hx.1 hx.2 h1 (by omega) (by omega)
  · by_cases h2 : 65536 ≤ x
    · by_cases h3 : 256 ≤ x / 65536
      · exact len64_011 x w hx.1 hx.2 (by omega) h2 h3
      · exact len64_010 x w hx.1 hx.2 (by omega) h2 (by omega)
    · by_cases h3 : 256 ≤ x
      · exact len64_001 x w hx.1 hx.2 (by omega) (by omega) h3
      · exact len64_000 x w hx.1 hx.2 (by omega) (by omega) (by omega)

/-- How many bytes a number needs. -/
def sz (f : Nat → Int) (n : Nat) : Nat := if tl f n = 0 then 0 else 8 * (tl f n - 1) + (bitLen (f (tl f n - 1)).toNat + 7) / 8

theorem size_any (p : Option Addr) (n cap : Nat) (f : Nat → Int) (w : World) (hn : n ≤ cap) (hcap : cap ≤ 9223372036854775807) (hc : At w p n f) (rf : Rg f n) (hN : n ≤ 1000000) :
    Calls Tryd.prog 70 #[.slice p n cap] w fun e w' => e = .returned (.int .i64 (sz f n)) ∧ w' = w := by
  have H1 : Hid _ := trim_any p n cap f w hn hcap hc
  have lf := tl_le f n
  have hc' := hc.mono lf
  unfold sz
  have rf' := rf.mono lf
  clear hc rf
  generalize tl f n = m at *
  cases m with
  | zero =>
    rw [if_pos rfl]
    go_enter Tryd.func70, Tryd.ntmps70
    go_wp2_with fail
    refine Calls.mono H1.out ?_
    rintro e w' ⟨rfl, rfl⟩
    go_wp2
    go_ret
    exact ⟨rfl, rfl⟩
  | succ m =>
    rw [if_neg (by omega)]
    obtain ⟨b, off, rfl, hcell⟩ := hc' (by omega)
    have hc1 := hcell m (by omega)
    have L := len64_any (f m) w (rf' m (by omega))
    have bl : bitLen (f m).toNat ≤ 64 := by
      have h := rf' m (by omega)
      have e := len_of (f m) (f m / 2 ^ 56) 56 h.1 rfl
      by_cases c : 0 < f m / 2 ^ 56
      · rw [e (Or.inl c)]
        have := bitLen_le8 (f m / 2 ^ 56).toNat (by
          rw [B64_eq] at h
          have : f m / 2 ^ 56 = f m / 72057594037927936 := rfl
          omega)
        omega
      · have hlt : f m < 72057594037927936 := by
          have : f m / 2 ^ 56 = f m / 72057594037927936 := rfl
          omega
        have sp := bitLen_spec (f m).toNat
        rcases Nat.lt_or_ge 64 (bitLen (f m).toNat) with c2 | c2
        · exfalso
          have hne : (f m).toNat ≠ 0 := by intro z; rw [z] at c2; simp [bitLen] at c2
          have h2 := sp.2 hne
          have h3 : 2 ^ 64 ≤ 2 ^ (bitLen (f m).toNat - 1) := Nat.pow_le_pow_right (by decide) (by omega)
          omega
        · exact c2
    have HL : Hid _ := L
    clear hcell hc' L
    simp only [Nat.add_sub_cancel]
    generalize bitLen (f m).toNat = q at *
    go_enter Tryd.func70, Tryd.ntmps70
    go_wp2_with fail
    refine Calls.mono H1.out ?_
    rintro e w' ⟨rfl, rfl⟩
    have h0 : (((m : Int) + 1) == 0) = false := by simp; omega
    go_wp2_with fail
    refine Calls.mono HL.out ?_
    rintro e w' ⟨rfl, rfl⟩
    go_wp2
    go_ret
    exact ⟨ret_int (by omega), rfl⟩

/-- Byte i of a number, the least first. -/
def byt (f : Nat → Int) (n i : Nat) : Int := lm f n (i / 8) / 2 ^ (8 * (i % 8)) % 256

theorem info8 : (Tryd.prog.info? 5).map (fun i => (i.zero, i.size, i.bytes)) = some (some (.int .u8 0), 1, 1) := by kernel_rfl

theorem put_err (p : Option Addr) (m cap : Nat) (f : Nat → Int) (n : Int) (w : World) (hn : m ≤ cap) (hcap : cap ≤ 9223372036854775807) (hc : At w p m f) (rf : Rg f m) (hb : n < 0 ∨ 192 < n ∨ n < sz f m) (hN : m ≤ 1000000) :
    Calls Tryd.prog 62 #[.slice p m cap, .int .i64 n] w fun e w' => e = .returned (.tuple #[.slice none 0 0, .int .i64 8]) ∧ w' = w := by
  have HS : Hid _ := size_any p m cap f w hn hcap hc rf hN
  clear hc rf
  generalize sz f m = s at *
  by_cases h1 : n < 0
  · clear hb
    go_enter Tryd.func62, Tryd.ntmps62
    go_wp2_with fail
    go_step3
    go_wp2_with fail
    rw [Exit.noGoto_ret]
    go_ret2
    exact ⟨rfl, rfl⟩
  · by_cases h2 : 192 < n
    · clear hb
      go_enter Tryd.func62, Tryd.ntmps62
      go_wp2_with fail
      go_step3
      go_wp2_with fail
      rw [Exit.noGoto_ret]
      go_ret2
      exact ⟨rfl, rfl⟩
    · have h3 : n < s := by omega
      clear hb
      go_enter Tryd.func62, Tryd.ntmps62
      go_wp2_with fail
      go_step3
      go_wp2_with fail
      refine Calls.mono HS.out ?_
      rintro e w' ⟨rfl, rfl⟩
      go_wp2
      rw [Exit.noGoto_ret]
      go_ret2
      exact ⟨rfl, rfl⟩

def putJ (p : Option Addr) (m cap n : Nat) (f : Nat → Int) (w : World) : Act → World → Prop := fun a' w' => ∃ (i : Nat) (d : Nat → Int) (u8 u9 u10 u11 u12 u13 u14 u15 u16 u17 u18 u19 u20 u21 u22 u23 u24 u25 u26 u27 u28 u29 u30 u31 u32 u33 u34 u35 u36 u37 u38 u39 u40 u41 u42 : Value),
  a' = { tmps := #[.slice p m cap, .int .i64 n, undef, undef, .slice none 0 0, .int .i64 0, .slice (some ⟨w.heap.size, 0, none⟩) n n, .int .i64 i, u8, u9, u10, u11, u12, u13, u14, u15, u16, u17, u18, u19, u20, u21, u22, u23, u24, u25, u26, u27, u28, u29, u30, u31, u32, u33, u34, u35, u36, u37, u38, u39, u40, u41, u42], defers := [] } ∧
  i ≤ n ∧ Below w.heap.size w w' ∧ w'.heap.size = w.heap.size + 1 ∧ MutK .u8 w' w.heap.size 0 n d ∧ ∀ j, j < i → d (n - 1 - j) = byt f m j

theorem put_any (p : Option Addr) (m cap n : Nat) (f : Nat → Int) (w : World) (hn : m ≤ cap) (hcap : cap ≤ 9223372036854775807) (hc : At w p m f) (rf : Rg f m) (h1 : n ≤ 192) (h2 : sz f m ≤ n) (hN : m ≤ 1000000) :
    Calls Tryd.prog 62 #[.slice p m cap, .int .i64 n] w fun e w' => e = .returned (.tuple #[.slice (some ⟨w.heap.size, 0, none⟩) n n, .int .i64 0]) ∧ Below w.heap.size w w' ∧ w'.heap.size = w.heap.size + 1 ∧ MutK .u8 w' w.heap.size 0 n (fun j => byt f m (n - 1 - j)) := by
  obtain ⟨i0, hi0, hz0, hz1, hz2⟩ := info_parts info8
  have HS : Hid _ := size_any p m cap f w hn hcap hc rf hN
  generalize sz f m = s at *
  go_enter Tryd.func62, Tryd.ntmps62
  go_wp2_with fail
  refine wp_scope_goto 0 (putJ p m cap n f w) (fun a' _ => n - slot 7 a') rfl ?_ ?_
  · rintro a' W ⟨i, d, u8, u9, u10, u11, u12, u13, u14, u15, u16, u17, u18, u19, u20, u21, u22, u23, u24, u25, u26, u27, u28, u29, u30, u31, u32, u33, u34, u35, u36, u37, u38, u39, u40, u41, u42, rfl, hi, hbel, hs, hm, hd⟩
    clear HS
    by_cases hlt : i < n
    · have hcW : At W p m f := hc.below hbel
      have HL : Hid _ := limbAt_any p m cap f (i / 8) W (by omega) (by omega) hcW
      obtain ⟨hc0, hz⟩ := hm (n - 1 - i) (by omega)
      rw [Nat.zero_add] at hc0 hz
      have HD : Hid _ := hd
      clear hd
      have lb := lm_rg rf (i / 8 + 1) (i / 8) (by omega)
      have LB : Hid _ := lb
      clear lb
      go_wp2_with fail
      rw [show (i : Int) / 8 = ((i / 8 : Nat) : Int) from rfl]
      refine Calls.mono HL.out ?_
      rintro e w' ⟨rfl, rfl⟩
      go_wp2
      go_step3
      refine ⟨rfl, ⟨i + 1, up d (n - 1 - i) (byt f m i), _, _, _, _, _, _, _, _, _, _, _, _, _, _, _, _, _, _, _, _, _, _, _, _, _, _, _, _, _, _, _, _, _, _, _, rfl, by omega, hbel.setCell (Nat.le_refl _) _, by rw [World.size_setCell]; exact hs, hm.set0 (by omega) _, ?_⟩, ?_⟩
      · intro j hj
        by_cases e : j = i
        · subst e; rw [up_at]
        · rw [up_ne (by omega)]; exact HD.out j (by omega)
      · simp [slot, intOf]; omega
    · have e : i = n := by omega
      subst e
      have HB : Hid _ := hbel
      have HM : Hid _ := hm
      have HD : Hid _ := hd
      have HS' : Hid _ := hs
      clear hbel hm hd hs
      go_wp2
      simp only [Exit.jump]
      go_ret2
      exact ⟨rfl, HB.out, HS'.out, MutK.congr HM.out fun j hj => by have := HD.out (i - 1 - j) (by omega); rwa [show i - 1 - (i - 1 - j) = j by omega] at this⟩
  · intro hr
    have b1 : ¬ (n : Int) < 0 := by omega
    have b2 : ¬ (192 : Int) < (n : Int) := by omega
    have b3 : ¬ (n : Int) < (s : Int) := by omega
    go_wp2_with fail
    refine Calls.mono HS.out ?_
    rintro e w' ⟨rfl, rfl⟩
    go_wp2_with (at_make; refine wpList_make_lim _ .u8 rfl _ _ 41 5 rfl Tryd.underlying41 i0 hi0 hz0 hz1 (by omega) .i64 .i64 _ _ n rfl rfl (by omega) (by omega) (by omega) ?_; intro w1 hb1 hs1 hm1)
    go_step3
    rename_i K hK
    exact hK _ _ (hr _ _ ⟨0, Z, _, _, _, _, _, _, _, _, _, _, _, _, _, _, _, _, _, _, _, _, _, _, _, _, _, _, _, _, _, _, _, _, _, _, _, rfl, by omega, hb1, hs1, hm1, fun j hj => absurd hj (by omega)⟩)
end Go.Proofs.YtfbdbkookbmdgaaDoor
