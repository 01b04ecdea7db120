/- What limb.bringDown and limb.Rest answer, for every call. -/
import Derived.Test.YtfbdbkookbmdgaaDoorWE
namespace Go.Proofs.YtfbdbkookbmdgaaDoor
open Go.RowKit
attribute [local go_sem ↓] Go.wp_at_zero Go.wp_at_succ

/-- What is left of the number whose top is r and whose next limb is x, when l bits of x are still to come. -/
def vst (r x M : Int) (l : Nat) : Int := (r * 2 ^ (64 - l) + x / 2 ^ l) % M

theorem vst_top {r x M : Int} (hr : 0 ≤ r ∧ r < M) (hx : 0 ≤ x ∧ x < B64) : vst r x M 64 = r := by
  unfold vst
  rw [B64_eq] at hx
  have e : x / 2 ^ 64 = 0 := by
    show x / 18446744073709551616 = 0
    omega
  rw [e]
  show (r * 1 + 0) % M = r
  rw [Int.mul_one, Int.add_zero]
  exact Int.emod_eq_of_lt hr.1 hr.2

theorem vst_end (r x M : Int) : vst r x M 0 = (r * B64 + x) % M := by
  unfold vst
  rw [B64_eq]
  show (r * 18446744073709551616 + x / 1) % M = _
  rw [Int.ediv_one]

theorem bit_split (x : Int) (l : Nat) : x / 2 ^ l = 2 * (x / 2 ^ (l + 1)) + x / 2 ^ l % 2 := by
  have e : x / 2 ^ (l + 1) = x / 2 ^ l / 2 := by rw [Int.pow_succ, Int.ediv_ediv_of_nonneg (Int.le_of_lt (Int.pow_pos (by decide)))]
  rw [e]; omega

theorem vst_step {r x M : Int} {l : Nat} (hl : l < 64) (hM : 0 < M) :
    vst r x M l = if 2 * vst r x M (l + 1) + x / 2 ^ l % 2 < M then 2 * vst r x M (l + 1) + x / 2 ^ l % 2 else 2 * vst r x M (l + 1) + x / 2 ^ l % 2 - M := by
  have b0 : 0 ≤ x / 2 ^ l % 2 ∧ x / 2 ^ l % 2 < 2 := by omega
  have v0 : 0 ≤ vst r x M (l + 1) := Int.emod_nonneg _ (by omega)
  have v1 : vst r x M (l + 1) < M := Int.emod_lt_of_pos _ hM
  have e : vst r x M l = (2 * vst r x M (l + 1) + x / 2 ^ l % 2) % M := by
    unfold vst
    have hb := bit_split x l
    generalize x / 2 ^ l % 2 = b at *
    generalize x / 2 ^ (l + 1) = y at *
    generalize x / 2 ^ l = z at *
    rw [hb, show 64 - l = (64 - (l + 1)) + 1 by omega, Int.pow_succ]
    rw [show r * (2 ^ (64 - (l + 1)) * 2) + (2 * y + b) = 2 * (r * 2 ^ (64 - (l + 1)) + y) + b by grind]
    rw [Int.add_emod, Int.mul_emod, Int.add_emod (2 * ((r * 2 ^ (64 - (l + 1)) + y) % M)), Int.mul_emod 2 ((r * 2 ^ (64 - (l + 1)) + y) % M), Int.emod_emod]
  rw [e]
  split
  · rename_i h; exact Int.emod_eq_of_lt (by omega) h
  · rename_i h
    rw [show 2 * vst r x M (l + 1) + x / 2 ^ l % 2 = (2 * vst r x M (l + 1) + x / 2 ^ l % 2 - M) + M by omega, Int.add_emod_right]
    rw [Int.emod_eq_of_lt (by omega) (by omega)]; omega

theorem and_one (z : Int) (h0 : 0 ≤ z) (h1 : z < 18446744073709551616) : bits .and .u64 z 1 = z % 2 := by go_bits2

def bringJ (b n cap : Nat) (x : Int) (pm : Option Addr) (nm cm : Nat) (r M : Int) (w : World) : Act → World → Prop := fun a' w' => ∃ (l : Nat) (d : Nat → Int) (u7 u8 u9 u10 u11 u12 u13 u14 u15 u16 u17 u18 u19 u20 u21 u22 u23 : Value),
  a' = { tmps := #[.slice (some ⟨b, 0, none⟩) n cap, .int .u64 x, .slice pm nm cm, undef, undef, undef, .int .i64 l, u7, u8, u9, u10, u11, u12, u13, u14, u15, u16, u17, u18, u19, u20, u21, u22, u23], defers := [] } ∧ l ≤ 64 ∧ Upd b 0 n w w' ∧ Mut w' b 0 n d ∧ Rg d n ∧ val d n = vst r x M l

theorem bringDown_any (b nm cap cm : Nat) (f g : Nat → Int) (x : Int) (pm : Option Addr) (w : World) (hcap : nm + 1 ≤ cap) (hcap' : cap ≤ 9223372036854775807) (hcm : nm ≤ cm) (hcm' : cm ≤ 9223372036854775807) (hm : Mut w b 0 (nm + 1) f) (hg : At w pm nm g)
    (hne : 0 < nm → ∀ b' o', pm = some ⟨b', o', none⟩ → b' ≠ b) (rf : Rg f (nm + 1)) (rg : Rg g nm) (hx : 0 ≤ x ∧ x < B64) (hlt : val f (nm + 1) < val g nm) (hN : nm ≤ 1000000) :
    Calls Tryd.prog 72 #[.slice (some ⟨b, 0, none⟩) (nm + 1) cap, .int .u64 x, .slice pm nm cm] w fun e w' => e = .returned (.tuple #[]) ∧ Upd b 0 (nm + 1) w w' ∧ ∃ d, Mut w' b 0 (nm + 1) d ∧ Rg d (nm + 1) ∧ val d (nm + 1) = (val f (nm + 1) * B64 + x) % val g nm := by
  have v0 := (val_bd rf).1
  have vg := (val_bd rg).2
  have hM : 0 < val g nm := by omega
  go_enter Tryd.func72, Tryd.ntmps72
  go_wp2_with fail
  refine wp_scope_goto 0 (bringJ b (nm + 1) cap x pm nm cm (val f (nm + 1)) (val g nm) w) (fun a' _ => slot 6 a') rfl ?_ ?_
  · rintro a' W ⟨l, d, u7, u8, u9, u10, u11, u12, u13, u14, u15, u16, u17, u18, u19, u20, u21, u22, u23, rfl, hl, hu, hm', rd, hv⟩
    cases l with
    | zero =>
      rw [vst_end] at hv
      have HV : Hid _ := hv
      have HU : Hid _ := hu
      have HM : Hid _ := hm'
      clear hv hu hm' hm hg hne rf rg hx hlt v0 vg hM
      go_wp2
      simp only [Exit.jump]
      go_end0
      exact ⟨rfl, HU.out, d, HM.out, rd, HV.out⟩
    | succ l =>
      have HV : Hid _ := hv
      have HU : Hid _ := hu
      have HM : Hid _ := hm'
      clear hv hu hm' hm v0 vg hM
      have c0 : 0 ≤ x / 2 ^ l % 2 ∧ x / 2 ^ l % 2 ≤ 1 := by omega
      have hbit : bits BinOp.and IntKind.u64 (x / 2 ^ l) 1 = x / 2 ^ l % 2 := and_one _ (Int.ediv_nonneg hx.1 (Int.le_of_lt (Int.pow_pos (by decide)))) (by
        have := Int.ediv_le_self (2 ^ l) hx.1
        rw [B64_eq] at hx
        omega)
      have hw : val d (nm + 1) < val g nm := by rw [HV.out]; exact Int.emod_lt_of_pos _ (by have := (val_bd rf).1; omega)
      have hvd := (val_bd rd).1
      have vg := (val_bd rg).2
      have vsum := val_sm_lt rd rd c0 (by
        have := pw_pos nm
        rw [pw, B64_eq]; omega)
      have hstep := vst_step (r := val f (nm + 1)) (x := x) (M := val g nm) (l := l) (by omega) (by have := (val_bd rf).1; omega)
      rw [← HV.out] at hstep
      rw [show val d (nm + 1) + val d (nm + 1) + x / 2 ^ l % 2 = 2 * val d (nm + 1) + x / 2 ^ l % 2 by omega] at vsum
      rw [← vsum] at hstep
      have HD : Hid _ := double_any b 0 (nm + 1) cap d (x / 2 ^ l % 2) W (by omega) HM.out rd c0
      have rs := sm_rg d d (x / 2 ^ l % 2) (nm + 1)
      have HST : Hid _ := hstep
      have HB : Hid _ := hbit
      have HX : Hid _ := hx
      clear hstep vsum hbit hvd hw hx
      go_wp2_with fail
      rw [HB.out]
      refine Calls.mono HD.out ?_
      rintro e w1 ⟨rfl, hu1, hm1⟩
      generalize sm d d (x / 2 ^ l % 2) = s at *
      rw [Nat.zero_add] at hu1
      have hu2 := Upd.trans HU.out hu1
      have hg1 : At w1 pm nm g := hg.upd hu2 hne
      have HC := compare_any (some ⟨b, 0, none⟩) pm (nm + 1) nm cap cm s g w1 hcap hcap' hcm hcm' hm1.at hg1 rs rg
      by_cases hlt2 : val s (nm + 1) < val g nm
      · rw [ord_lt hlt2] at HC
        have HST2 := HST.out
        rw [if_pos hlt2] at HST2
        have HE : Hid _ := HST2
        have HC' : Hid _ := HC
        have HU2 : Hid _ := hu2
        have HM1 : Hid _ := hm1
        clear HST2 HC hu2 hm1 hu1
        go_wp2_with fail
        refine Calls.mono HC'.out ?_
        rintro e w2 ⟨rfl, q, rfl⟩
        go_wp2
        go_step3
        refine ⟨rfl, ⟨l, s, _, _, _, _, _, _, _, _, _, _, _, _, _, _, _, _, _, rfl, by omega, Upd.drewN HU2.out q, MutK.drewN HM1.out q, rs, HE.out.symm⟩, ?_⟩
        simp [slot, intOf]
      · have o1 : 0 ≤ ord (val s (nm + 1)) (val g nm) := by have := @ord_neg_iff (val s (nm + 1)) (val g nm); omega
        generalize ord (val s (nm + 1)) (val g nm) = o at *
        have HST2 := HST.out
        rw [if_neg hlt2] at HST2
        have vdf := val_df_ge rs (lm_rg rg (nm + 1)) (by rw [val_lm g nm (nm + 1) (by omega)]; omega)
        rw [val_lm g nm (nm + 1) (by omega), ← HST2] at vdf
        have HL : ∀ q, Hid _ := fun q => lessen_any b 0 (nm + 1) cap s pm nm cm g (w1.drewN q) (by omega) (by omega) (hm1.drewN q) (hg1.drewN q) hne rs rg
        have HE : Hid _ := vdf
        have HC' : Hid _ := HC
        have HU2 : Hid _ := hu2
        clear HST2 HC hu2 hm1 hu1 vdf
        go_wp2_with fail
        refine Calls.mono HC'.out ?_
        rintro e w2 ⟨rfl, q, rfl⟩
        go_wp2_with fail
        refine Calls.mono (HL q).out ?_
        rintro e w3 ⟨rfl, hu3, hm3⟩
        rw [Nat.zero_add] at hu3
        have hu4 := (Upd.drewN HU2.out q).trans hu3
        have HU4 : Hid _ := hu4
        have HM3 : Hid _ := hm3
        clear hu3 hu4 hm3
        go_wp2
        go_step3
        refine ⟨rfl, ⟨l, _, _, _, _, _, _, _, _, _, _, _, _, _, _, _, _, _, _, rfl, by omega, HU4.out, HM3.out, df_rg _ _ _, HE.out⟩, ?_⟩
        simp [slot, intOf]
  · intro hr
    go_wp2
    go_step3
    rename_i K hK
    exact hK _ _ (hr _ _ ⟨64, f, _, _, _, _, _, _, _, _, _, _, _, _, _, _, _, _, _, rfl, Nat.le_refl _, Upd.refl _ _ _ _, hm, rf, (vst_top ⟨v0, hlt⟩ hx).symm⟩)

theorem rest_zero (pa pm : Option Addr) (na nm ca cm : Nat) (f g : Nat → Int) (w : World) (hna : na ≤ ca) (hca : ca ≤ 9223372036854775807) (hnm : nm ≤ cm) (hcm : cm ≤ 9223372036854775807) (ha : At w pa na f) (hg : At w pm nm g) (rg : Rg g nm) (h : val g nm = 0) :
    Calls Tryd.prog 64 #[.slice pa na ca, .slice pm nm cm] w fun e w' => e = .returned (.tuple #[.slice none 0 0, .int .i64 7]) ∧ w' = w := by
  have H1 : Hid _ := trim_any pa na ca f w hna hca ha
  have H2' := trim_any pm nm cm g w hnm hcm hg
  have z : tl g nm = 0 := by
    have e := val_tl g nm
    have n := nm_tl g nm
    have r := rg.mono (tl_le g nm)
    generalize tl g nm = k at *
    cases k with
    | zero => rfl
    | succ k => have a := nm_lb r n
                have b := pw_pos k
                omega
  rw [z] at H2'
  have H2 : Hid _ := H2'
  clear H2' z h rg ha hg
  go_enter Tryd.func64, Tryd.ntmps64
  go_wp2_with fail
  go_step3
  go_wp2_with fail
  refine Calls.mono H1.out ?_
  rintro e w' ⟨rfl, rfl⟩
  go_wp2_with fail
  refine Calls.mono H2.out ?_
  rintro e w' ⟨rfl, rfl⟩
  go_wp2
  rw [Exit.noGoto_ret]
  go_ret2
  exact ⟨rfl, rfl⟩

def restJ (pa pm : Option Addr) (na nm ca cm : Nat) (f g : Nat → Int) (w : World) : Act → World → Prop := fun a' w' => ∃ (i : Nat) (d : Nat → Int) (u8 u9 u10 u11 u12 u13 u14 u15 u16 u17 u18 u19 u20 u21 u22 u23 u24 u25 u26 u27 u28 u29 u30 u31 u32 u33 u34 u35 u36 u37 u38 u39 u40 u41 u42 u43 u44 u45 : Value),
  a' = { tmps := #[.slice pa na ca, .slice pm nm cm, undef, undef, .slice none 0 0, .int .i64 0, .slice (some ⟨w.heap.size, 0, none⟩) (nm + 1) (nm + 1), .int .i64 i, u8, u9, u10, u11, u12, u13, u14, u15, u16, u17, u18, u19, u20, u21, u22, u23, u24, u25, u26, u27, u28, u29, u30, u31, u32, u33, u34, u35, u36, u37, u38, u39, u40, u41, u42, u43, u44, u45], defers := [] } ∧
  i ≤ na ∧ Below w.heap.size w w' ∧ w'.heap.size = w.heap.size + 1 ∧ Mut w' w.heap.size 0 (nm + 1) d ∧ Rg d (nm + 1) ∧ val d (nm + 1) = val (sh f i) (na - i) % val g nm

theorem sh_step (f : Nat → Int) (i n : Nat) : val (sh f i) (n + 1) = val (sh f (i + 1)) n * B64 + f i := by
  have e := val_sh (sh f i) 1 n
  rw [show 1 + n = n + 1 by omega] at e
  rw [e]
  have e2 : sh (sh f i) 1 = sh f (i + 1) := by funext j; show f (i + (1 + j)) = f (i + 1 + j); congr 1; omega
  rw [e2]
  have e3 : val (sh f i) 1 = f i := by simp [val, pw, sh]
  rw [e3]
  have e4 : pw 1 = B64 := by simp [pw]
  rw [e4]
  grind

theorem add_addr (b off t : Nat) : (⟨b, off, none⟩ : Addr).add t = ⟨b, off + t, none⟩ := by unfold Addr.add; split <;> simp_all

theorem AtK.shift {k : IntKind} {w : World} {p : Option Addr} {n : Nat} {f : Nat → Int} (h : AtK k w p n f) (t : Nat) : AtK k w (Option.map (fun x => x.add t) p) (n - t) (sh f t) := fun h0 => by
  obtain ⟨b, off, e, hc⟩ := h (by omega)
  refine ⟨b, off + t, by rw [e]; exact congrArg some (add_addr b off t), fun j hj => ?_⟩
  have := hc (t + j) (by omega)
  rw [← Nat.add_assoc] at this
  exact this

theorem rest_any (pa pm : Option Addr) (na nm ca cm : Nat) (f g : Nat → Int) (w : World) (hna : na ≤ ca) (hca : ca ≤ 9223372036854775807) (hnm : nm ≤ cm) (hcm : cm ≤ 9223372036854775807) (ha : At w pa na f) (hg : At w pm nm g) (rf : Rg f na) (rg : Rg g nm) (hN : na ≤ 1000000) (hM : nm ≤ 1000000) (h0 : val g nm ≠ 0) :
    Calls Tryd.prog 64 #[.slice pa na ca, .slice pm nm cm] w fun e w' => ∃ v, e = .returned (.tuple #[v, .int .i64 0]) ∧ New w w' v (nm + 1) (val f na % val g nm) := by
  obtain ⟨i0, hi0, hz0, hz1, hz2⟩ := info_parts info64
  have hsz : (Tryd.prog.info? 22).map (·.size) = some 1 := by rw [hi0]; simp [hz1]
  have lf := tl_le f na
  have lg := tl_le g nm
  rw [← val_tl g nm] at h0
  rw [← val_tl f na, ← val_tl g nm]
  have ha' := ha.mono lf
  have hg' := hg.mono lg
  have rf' := rf.mono lf
  have rg' := rg.mono lg
  have ng := nm_tl g nm
  have H1 : Hid _ := trim_any pa na ca f w hna hca ha
  have H2 : Hid _ := trim_any pm nm cm g w hnm hcm hg
  clear ha hg rf rg
  generalize tl f na = m at *
  generalize tl g nm = k at *
  have hk : 0 < k := by
    rcases Nat.eq_zero_or_pos k with e | e
    · subst e; exact absurd rfl h0
    · exact e
  have hM0 : 0 < val g k := by have := (val_bd rg').1; omega
  go_enter Tryd.func64, Tryd.ntmps64
  go_wp2_with fail
  refine wp_scope_goto 0 (restJ pa pm m k ca cm f g w) (fun a' _ => slot 7 a') rfl ?_ ?_
  · rintro a' W ⟨i, d, u8, u9, u10, u11, u12, u13, u14, u15, u16, u17, u18, u19, u20, u21, u22, u23, u24, u25, u26, u27, u28, u29, u30, u31, u32, u33, u34, u35, u36, u37, u38, u39, u40, u41, u42, u43, u44, u45, rfl, hi, hbel, hs, hm', rd, hv⟩
    clear H1 H2
    cases i with
    | zero =>
      rw [show val (sh f 0) (m - 0) = val f m from val_congr fun j _ => by show f (0 + j) = f j; rw [Nat.zero_add]] at hv
      have HR : Hid _ := trim_any (some ⟨w.heap.size, 0, none⟩) (k + 1) (k + 1) d W (Nat.le_refl _) (by omega) hm'.at
      have HM : Hid _ := hm'
      have HB : Hid _ := hbel
      have HV : Hid _ := hv
      have HS : Hid _ := hs
      clear hm' hbel hv hs
      go_wp2_with fail
      refine Calls.mono HR.out ?_
      rintro e w' ⟨rfl, rfl⟩
      go_wp2
      simp only [Exit.jump]
      go_ret2
      refine ⟨_, rfl, HB.out, w.heap.size, 0, tl d (k + 1), k + 1, d, rfl, Nat.le_refl _, by rw [HS.out]; omega, tl_le _ _, by omega, MutK.mono HM.out (tl_le _ _), Rg.mono rd (tl_le _ _), nm_tl _ _, by rw [val_tl]; exact HV.out⟩
    | succ i =>
      have hgW : At W pm k g := hg'.below hbel
      obtain ⟨b, off, rfl, hcell⟩ := (ha'.below hbel) (by omega)
      have hc1 := hcell i (by omega)
      have hlt : val d (k + 1) < val g k := by rw [hv]; exact Int.emod_lt_of_pos _ hM0
      have HD : Hid _ := bringDown_any w.heap.size k (k + 1) cm d g (f i) pm W (Nat.le_refl _) (by omega) (by omega) hcm hm' hgW (fun h => hg'.apart h) rd rg' (rf' i (by omega)) hlt (by omega)
      have hstep : (val d (k + 1) * B64 + f i) % val g k = val (sh f i) (m - i) % val g k := by
        rw [show m - i = (m - (i + 1)) + 1 by omega, sh_step, hv]
        rw [Int.add_emod, Int.mul_emod, Int.emod_emod, ← Int.mul_emod, ← Int.add_emod]
      have HST : Hid _ := hstep
      have HB : Hid _ := hbel
      have HS : Hid _ := hs
      clear hstep hbel hs hv hlt hm' hcell
      go_wp2_with fail
      refine Calls.mono HD.out ?_
      rintro e w1 ⟨rfl, hu1, d1, hm1, rd1, hv1⟩
      have HU1 : Hid _ := hu1
      have HM1 : Hid _ := hm1
      have HV1 : Hid _ := hv1
      clear hu1 hm1 hv1
      go_wp2
      go_step3
      refine ⟨rfl, ⟨i, d1, _, _, _, _, _, _, _, _, _, _, _, _, _, _, _, _, _, _, _, _, _, _, _, _, _, _, _, _, _, _, _, _, _, _, _, _, _, _, rfl, by omega, Below.trans HB.out (Upd.below HU1.out (Nat.le_refl _)), (Upd.size HU1.out).trans HS.out, HM1.out, rd1, HV1.out.trans HST.out⟩, ?_⟩
      simp [slot, intOf]
  · intro hr
    go_wp2_with fail
    refine Calls.mono H1.out ?_
    rintro e w' ⟨rfl, rfl⟩
    go_wp2_with fail
    refine Calls.mono H2.out ?_
    rintro e w' ⟨rfl, rfl⟩
    have hk' : ((k : Int) == 0) = false := by simp; omega
    rcases Nat.lt_or_ge (k - 1) m with hA | hB
    · have small : val (sh f (m - (k - 1))) (m - (m - (k - 1))) < val g k := by
        have r1 : Rg (sh f (m - (k - 1))) (m - (m - (k - 1))) := fun j hj => rf' ((m - (k - 1)) + j) (by omega)
        have a1 := (val_bd r1).2
        obtain ⟨k', hk1⟩ : ∃ k', k = k' + 1 := ⟨k - 1, by omega⟩
        have a2 : pw k' ≤ val g k := by rw [hk1]; rw [hk1] at rg' ng; exact nm_lb rg' ng
        have a3 := pw_mono (show m - (m - (k - 1)) ≤ k' by omega)
        omega
      have vmod : val (sh f (m - (k - 1))) (m - (m - (k - 1))) = val (sh f (m - (k - 1))) (m - (m - (k - 1))) % val g k := (Int.emod_eq_of_lt (val_bd (fun j hj => rf' ((m - (k - 1)) + j) (by omega))).1 small).symm
      have fin : ∀ (w2 w3 : World), Below w'.heap.size w' w2 → w2.heap.size = w'.heap.size + 1 → Upd w'.heap.size 0 (0 + (m - (m - (k - 1)))) w2 w3 → MutK .u64 w3 w'.heap.size 0 (k + 1) (mix (sh f (m - (k - 1))) Z (m - (m - (k - 1)))) →
          Below w'.heap.size w' w3 ∧ w3.heap.size = w'.heap.size + 1 ∧ Mut w3 w'.heap.size 0 (k + 1) (lm (sh f (m - (k - 1))) (m - (m - (k - 1)))) ∧ Rg (lm (sh f (m - (k - 1))) (m - (m - (k - 1)))) (k + 1) ∧ val (lm (sh f (m - (k - 1))) (m - (m - (k - 1)))) (k + 1) = val (sh f (m - (k - 1))) (m - (m - (k - 1))) % val g k := fun w2 w3 q1 q2 q3 q4 =>
        ⟨q1.trans (q3.below (Nat.le_refl _)), q3.size.trans q2, q4, lm_rg (fun j hj => rf' ((m - (k - 1)) + j) (by omega)) _, by rw [val_lm _ _ _ (by omega)]; exact vmod⟩
      have FIN : Hid _ := fin
      have HA2 : Hid (∀ w1, Below w'.heap.size w' w1 → AtK .u64 w1 (Option.map (fun x => x.add (m - (k - 1))) pa) (m - (m - (k - 1))) (sh f (m - (k - 1)))) := fun w1 hb1 => (ha'.below hb1).shift (m - (k - 1))
      clear fin vmod small
      by_cases hcat : ca = (m - (k - 1))
      · have k1 : k = 1 := by omega
        have n1 : na = m := by omega
        have c1 : ca = m := by omega
        subst k1 n1 c1
        clear hcat
        go_wp2_with (first
          | (at_make; refine wpList_make_lim _ .u64 rfl _ _ 30 22 rfl Tryd.underlying30 i0 hi0 hz0 hz1 (by omega) .i64 .i64 _ _ (1 + 1) rfl rfl (by omega) (by omega) (by omega) ?_; intro w1 hb1 hs1 hm1)
          | (refine wpList_copy_lim .u64 (by rfl) (.tmp 28) (.tmp 31) 30 30 (by rfl) 22 Tryd.underlying30 hsz w'.heap.size 0 (1 + 1) (1 + 1) _ 0 _ Z (sh f (ca - (1 - 1))) (by rfl) (by rfl) hm1 (fun h => absurd h (by omega)) (by omega) ?_; intro w2 hu2 hm2))
        go_step3
        rename_i K hK
        refine hK _ _ (hr _ _ ⟨ca, Z, _, _, _, _, _, _, _, _, _, _, _, _, _, _, _, _, _, _, _, _, _, _, _, _, _, _, _, _, _, _, _, _, _, _, _, _, _, _, rfl, by omega, hb1.trans (hu2.below (Nat.le_refl _)), hu2.size.trans hs1, hm2.congr (fun j _ => mix_zero _ _ _), fun _ _ => ⟨Int.le_refl _, B64_pos⟩, ?_⟩)
        rw [val_zero (f := Z) (fun _ _ => rfl), show ca - ca = 0 by omega]
        simp [val]
      · have hA' : (k : Int) - 1 < (m : Int) := by omega
        go_wp2_with (first
          | (at_make; refine wpList_make_lim _ .u64 rfl _ _ 30 22 rfl Tryd.underlying30 i0 hi0 hz0 hz1 (by omega) .i64 .i64 _ _ (k + 1) rfl rfl (by omega) (by omega) (by omega) ?_; intro w1 hb1 hs1 hm1)
          | (refine wpList_copy_lim .u64 (by rfl) (.tmp 28) (.tmp 31) 30 30 (by rfl) 22 Tryd.underlying30 hsz w'.heap.size 0 (k + 1) (k + 1) (Option.map (fun x => x.add (m - (k - 1))) pa) (m - (m - (k - 1))) (ca - (m - (k - 1))) Z (sh f (m - (k - 1))) (by rfl) (by rfl) hm1 (HA2.out _ hb1) (by omega) ?_; intro w2 hu2 hm2))
        rw [show ((m : Int) - ((k : Int) - 1)) = (((m - (k - 1)) : Nat) : Int) by omega]
        go_step3
        rename_i K hK
        obtain ⟨q1, q2, q3, q4, q5⟩ := FIN.out _ _ hb1 hs1 hu2 hm2
        exact hK _ _ (hr _ _ ⟨(m - (k - 1)), _, _, _, _, _, _, _, _, _, _, _, _, _, _, _, _, _, _, _, _, _, _, _, _, _, _, _, _, _, _, _, _, _, _, _, _, _, _, _, rfl, by omega, q1, q2, q3, q4, q5⟩)
    · have small : val f m < val g k := by
        have a1 := (val_bd rf').2
        obtain ⟨k', hk1⟩ : ∃ k', k = k' + 1 := ⟨k - 1, by omega⟩
        have a2 : pw k' ≤ val g k := by rw [hk1]; rw [hk1] at rg' ng; exact nm_lb rg' ng
        have a3 := pw_mono (show m ≤ k' by omega)
        omega
      have vmod : val f m = val f m % val g k := (Int.emod_eq_of_lt (val_bd rf').1 small).symm
      have HVM : Hid _ := vmod
      have hB' : (m : Int) ≤ (k : Int) - 1 := by omega
      clear vmod small
      go_wp2_with (first
        | (at_make; refine wpList_make_lim _ .u64 rfl _ _ 30 22 rfl Tryd.underlying30 i0 hi0 hz0 hz1 (by omega) .i64 .i64 _ _ (k + 1) rfl rfl (by omega) (by omega) (by omega) ?_; intro w1 hb1 hs1 hm1)
        | (refine wpList_copy_lim .u64 (by rfl) (.tmp 28) (.tmp 31) 30 30 (by rfl) 22 Tryd.underlying30 hsz w'.heap.size 0 (k + 1) (k + 1) pa m ca Z f (by rfl) (by rfl) hm1 (ha'.below hb1) (by omega) ?_; intro w2 hu2 hm2))
      go_step3
      rename_i K hK
      refine hK _ _ (hr _ _ ⟨0, lm f m, _, _, _, _, _, _, _, _, _, _, _, _, _, _, _, _, _, _, _, _, _, _, _, _, _, _, _, _, _, _, _, _, _, _, _, _, _, _, rfl, by omega, hb1.trans (hu2.below (Nat.le_refl _)), hu2.size.trans hs1, hm2, lm_rg rf' _, ?_⟩)
      rw [val_lm _ _ _ (by omega), show val (sh f 0) (m - 0) = val f m from val_congr fun j _ => by show f (0 + j) = f j; rw [Nat.zero_add]]
      exact HVM.out
end Go.Proofs.YtfbdbkookbmdgaaDoor
