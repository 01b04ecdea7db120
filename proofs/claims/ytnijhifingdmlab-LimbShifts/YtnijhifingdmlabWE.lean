/- What limb.Sub and limb.Mul answer, for every call. -/
import Derived.Test.YtnijhifingdmlabWD
namespace Go.Proofs.Ytnijhifingdmlab
open Go.RowKit
attribute [local go_sem ↓] Go.wp_at_zero Go.wp_at_succ

/-- The slice at p has its cells below block B. -/
theorem AtK.apart {k : IntKind} {w : World} {p : Option Addr} {n : Nat} {f : Nat → Int} (h : AtK k w p n f) (h0 : 0 < n) : ∀ b' o', p = some ⟨b', o', none⟩ → b' ≠ w.heap.size := by
  obtain ⟨b, off, e, hl, _⟩ := h.lt h0
  intro b' o' e'
  rw [e] at e'
  injection e' with e'
  injection e' with e1
  omega


def mulJ (pa pb : Option Addr) (na nb ca cb : Nat) (f g : Nat → Int) (w : World) : Act → World → Prop := fun a' w' => ∃ (i : Nat) (h : Nat → Int) (u7 u8 u9 u10 u11 u12 u13 u14 u15 u16 u17 u18 u19 u20 u21 u22 u23 u24 u25 u26 u27 u28 u29 u30 u31 u32 u33 : Value),
  a' = { tmps := #[.slice pa na ca, .slice pb nb cb, undef, undef, .slice none 0 0, .slice (some ⟨w.heap.size, 0, none⟩) (na + nb) (na + nb), .int .i64 i, u7, u8, u9, u10, u11, u12, u13, u14, u15, u16, u17, u18, u19, u20, u21, u22, u23, u24, u25, u26, u27, u28, u29, u30, u31, u32, u33], defers := [] } ∧
  i ≤ nb ∧ Below w.heap.size w w' ∧ w'.heap.size = w.heap.size + 1 ∧ Mut w' w.heap.size 0 (na + nb) h ∧ Rg h (na + nb) ∧ val h (na + i) = val f na * val g i ∧ ∀ j, na + i ≤ j → j < na + nb → h j = 0

/-- One row of a product. -/
theorem mul_row {h f g : Nat → Int} {n i N : Nat} (hi : n + i + 1 ≤ N) (hv : val h (n + i) = val f n * val g i) (hz : ∀ j, n + i ≤ j → j < N → h j = 0) (rh : Rg h N) (rf : Rg f n) (hk : 0 ≤ g i ∧ g i < B64) :
    let h' := fun j => if j < i then h j else atR (sh h i) f (g i) n (j - i)
    val h' (n + (i + 1)) = val f n * val g (i + 1) ∧ Rg h' N ∧ ∀ j, n + (i + 1) ≤ j → j < N → h' j = 0 := by
  intro h'
  have rs : Rg (sh h i) n := fun j hj => rh (i + j) (by omega)
  have cb := ct_bd rs rf hk
  have lo : ∀ j, j < i → h' j = h j := fun j hj => by show (if _ then _ else _) = _; rw [if_pos hj]
  have mid : ∀ j, j < n → h' (i + j) = tm (sh h i) f (g i) j := fun j hj => by
    show (if _ then _ else _) = _
    rw [if_neg (by omega), show i + j - i = j by omega, atR, up_ne (by omega), mix_lo hj]
  have top : h' (i + n) = ct (sh h i) f (g i) n := by
    show (if _ then _ else _) = _
    rw [if_neg (by omega), show i + n - i = n by omega, atR, up_at]
  have hi' : ∀ j, n < j → i + j < N → h' (i + j) = h (i + j) := fun j hj _ => by
    show (if _ then _ else _) = _
    rw [if_neg (by omega), show i + j - i = j by omega, atR, up_ne (by omega), mix_hi (by omega)]; rfl
  refine ⟨?_, ?_, ?_⟩
  · rw [show n + (i + 1) = i + (n + 1) by omega, val_sh, val_congr lo, val]
    rw [show val (sh h' i) n = val (tm (sh h i) f (g i)) n from val_congr mid, show sh h' i n = ct (sh h i) f (g i) n from top, val_tm, val]
    have e := val_sh h i n
    rw [show i + n = n + i by omega, hv] at e
    rw [Int.mul_add, Int.mul_add, e]
    grind
  · intro j hj
    by_cases h1 : j < i
    · rw [lo j h1]; exact rh j hj
    · obtain ⟨q, rfl⟩ : ∃ q, j = i + q := ⟨j - i, by omega⟩
      rcases Nat.lt_trichotomy q n with c | c | c
      · rw [mid q c]; exact tm_rg _ _ _ n q c
      · subst c; rw [top]; exact cb
      · rw [hi' q c hj]; exact rh _ hj
  · intro j h1 h2
    obtain ⟨q, rfl⟩ : ∃ q, j = i + q := ⟨j - i, by omega⟩
    rw [hi' q (by omega) h2]; exact hz _ (by omega) h2

theorem mul_any (pa pb : Option Addr) (na nb ca cb : Nat) (f g : Nat → Int) (w : World) (hna : na ≤ ca) (hca : ca ≤ 9223372036854775807) (hnb : nb ≤ cb) (hcb : cb ≤ 9223372036854775807) (ha : At w pa na f) (hb : At w pb nb g) (rf : Rg f na) (rg : Rg g nb) (hN : na ≤ 1000000) (hM : nb ≤ 1000000) :
    Calls Try.prog 5 #[.slice pa na ca, .slice pb nb cb] w fun e w' => ∃ v, e = .returned v ∧ New w w' v (na + nb) (val f na * val g nb) := by
  obtain ⟨i0, hi0, hz0, hz1, hz2⟩ := info_parts info64
  have lf := tl_le f na
  have lg := tl_le g nb
  rw [← val_tl f na, ← val_tl g nb]
  have ha' := ha.mono lf
  have hb' := hb.mono lg
  have rf' := rf.mono lf
  have rg' := rg.mono lg
  have T1 := trim_any pa na ca f w hna hca ha
  have T2 := trim_any pb nb cb g w hnb hcb hb
  generalize tl f na = m at *
  generalize tl g nb = k at *
  have H1 : Hid _ := T1
  have H2 : Hid _ := T2
  clear T1 T2 ha hb rf rg
  go_enter Try.func5, Try.ntmps5
  go_wp2_with fail
  refine wp_scope_goto 0 (mulJ pa pb m k ca cb f g w) (fun a' _ => k - slot 6 a') rfl ?_ ?_
  · rintro a' W ⟨i, d, u7, u8, u9, u10, u11, u12, u13, u14, u15, u16, u17, u18, u19, u20, u21, u22, u23, u24, u25, u26, u27, u28, u29, u30, u31, u32, u33, rfl, hi, hbel, hsz, hM', rh, hv, hzz⟩
    clear H1 H2
    by_cases hlt : i < k
    · have hat : At W pa m f := ha'.below hbel
      obtain ⟨b2, off2, rfl, hcell⟩ := (hb'.below hbel) (by omega)
      have hc1 := hcell i hlt
      have hm2 : ∀ w2 q, w2 = W.drewN q → Mut w2 w.heap.size i (m + k - i) (sh d i) := fun w2 q e j hj => by
        rw [e]
        have := hM' (i + j) (by omega)
        rwa [Nat.zero_add] at this
      have row := mul_row (N := m + k) (by omega) hv hzz rh rf' (rg' i hlt)
      have C := fun (w2 : World) (q : Nat) (e : w2 = W.drewN q) => addTimes_any w.heap.size i (m + k - i) (m + k - i) (sh d i) pa m ca f (g i) w2 (by omega) (by omega) (hm2 w2 q e) (by rw [e]; exact hat) (fun h0 => ha'.apart h0) (fun j hj => rh (i + j) (by omega)) rf' (rg' i hlt)
      have HC : Hid _ := C
      have b1 : (0 : Int) ≤ (i : Int) := by omega
      have b2' : (i : Int) < (m : Int) + (k : Int) := by omega
      have b3 : (i : Int) < (k : Int) := by omega
      have HRow : Hid _ := row
      have HV : Hid _ := hv
      have HZ : Hid _ := hzz
      have HS : Hid _ := hsz
      clear hcell C hm2 row hv hzz hsz
      go_wp2
      go_region_with ((go_at_call 12; refine Calls.mono (HC.out _ 1 rfl) ?_; rintro e w2 ⟨rfl, hu2, hm2⟩))
      all_goals
        have hm3 : Mut w2 w.heap.size 0 (m + k) (fun j => if j < i then d j else atR (sh d i) f (g i) m (j - i)) := fun j hj => by
          by_cases c : j < i
          · dsimp only
            rw [if_pos c, Nat.zero_add]
            have := hM' j hj
            rw [Nat.zero_add] at this
            exact ⟨(hu2.cell j none (Or.inl c)).trans this.1, (hu2.frozen _).trans this.2⟩
          · dsimp only
            rw [if_neg c, Nat.zero_add]
            have := hm2 (j - i) (by omega)
            rwa [show i + (j - i) = j by omega] at this
        have hb3 : Below w.heap.size w w2 := hbel.drew.trans (hu2.below (Nat.le_refl _))
        have HM3 : Hid _ := hm3
        have HU2 : Hid _ := hu2
        have HB3 : Hid _ := hb3
        clear hm3 hu2 hb3 hm2 hM' hbel hat hc1
        go_wp2
        go_step3
        refine ⟨rfl, ⟨i + 1, _, _, _, _, _, _, _, _, _, _, _, _, _, _, _, _, _, _, _, _, _, _, _, _, _, _, _, _, rfl, by omega, HB3.out, (Upd.size HU2.out).trans HS.out, HM3.out, HRow.out.2.1, HRow.out.1, HRow.out.2.2⟩, ?_⟩
        simp [slot, intOf]; omega
    · have e : i = k := by omega
      subst e
      have HR : Hid _ := trim_any (some ⟨w.heap.size, 0, none⟩) (m + i) (m + i) d W (Nat.le_refl _) (by omega) hM'.at
      have HM : Hid _ := hM'
      have HB : Hid _ := hbel
      have HV : Hid _ := hv
      have RH : Hid _ := rh
      have HS : Hid _ := hsz
      clear hM' hbel hv rh hzz hsz
      go_wp2_with fail
      refine Calls.mono HR.out ?_
      rintro e w' ⟨rfl, rfl⟩
      go_wp2
      simp only [Exit.jump]
      go_ret
      refine ⟨_, rfl, HB.out, w.heap.size, 0, tl d (m + i), m + i, d, rfl, Nat.le_refl _, by rw [HS.out]; omega, tl_le _ _, by omega, MutK.mono HM.out (tl_le _ _), Rg.mono RH.out (tl_le _ _), nm_tl _ _, by rw [val_tl]; exact HV.out⟩
  · intro hr
    go_wp2_with fail
    refine Calls.mono H1.out ?_
    rintro e w' ⟨rfl, rfl⟩
    go_wp2_with fail
    refine Calls.mono H2.out ?_
    rintro e w' ⟨rfl, rfl⟩
    go_wp2_with (at_make; refine wpList_make_lim _ .u64 rfl _ _ 22 24 rfl Try.underlying22 i0 hi0 hz0 hz1 (by omega) .i64 .i64 _ _ (m + k) rfl rfl (by omega) (by omega) (by omega) ?_; intro w1 hb1 hs1 hm1)
    go_step3
    rename_i K hK
    refine hK _ _ (hr _ _ ⟨0, Z, _, _, _, _, _, _, _, _, _, _, _, _, _, _, _, _, _, _, _, _, _, _, _, _, _, _, _, rfl, by omega, hb1, hs1, hm1, fun j _ => ⟨Int.le_refl _, B64_pos⟩, ?_, fun _ _ _ => rfl⟩)
    rw [val_zero (f := Z) (fun _ _ => rfl)]; simp [val]
end Go.Proofs.Ytnijhifingdmlab
