/- What limb.Add answers, for every call. -/
import Derived.Test.YtnijhifingdmlabWC
namespace Go.Proofs.Ytnijhifingdmlab
open Go.RowKit
attribute [local go_sem ↓] Go.wp_at_zero Go.wp_at_succ

theorem info64 : (Try.prog.info? 24).map (fun i => (i.zero, i.size, i.bytes)) = some (some (.int .u64 0), 1, 8) := by kernel_rfl

/-- The value v is a slice in new memory of w', written by nobody else: the number x, with no nought on top. -/
def New (w w' : World) (v : Value) (N : Nat) (x : Int) : Prop :=
  Below w.heap.size w w' ∧ ∃ (b off n c : Nat) (h : Nat → Int), v = .slice (some ⟨b, off, none⟩) n c ∧ w.heap.size ≤ b ∧ b < w'.heap.size ∧ n ≤ c ∧ c ≤ N ∧ Mut w' b off n h ∧ Rg h n ∧ Nm h n ∧ val h n = x

def addJ (V : Int) (N : Nat) (w : World) : Act → World → Prop := fun a' w' => ∃ (p1 p2 : Option Addr) (n1 n2 c1 c2 : Nat) (f1 f2 : Nat → Int) (i : Nat) (u8 u9 u10 u11 u12 u13 u14 u15 u16 u17 u18 u19 u20 u21 u22 u23 u24 u25 u26 u27 u28 u29 u30 u31 u32 u33 u34 u35 u36 u37 u38 u39 u40 u41 u42 u43 u44 u45 u46 u47 u48 u49 u50 : Value),
  a' = { tmps := #[.slice p1 n1 c1, .slice p2 n2 c2, undef, undef, .slice none 0 0, .slice (some ⟨w.heap.size, 0, none⟩) (n1 + 1) (n1 + 1), .int .u64 (cy f1 (lm f2 n2) 0 i), .int .i64 i, u8, u9, u10, u11, u12, u13, u14, u15, u16, u17, u18, u19, u20, u21, u22, u23, u24, u25, u26, u27, u28, u29, u30, u31, u32, u33, u34, u35, u36, u37, u38, u39, u40, u41, u42, u43, u44, u45, u46, u47, u48, u49, u50], defers := [] } ∧
  n2 ≤ n1 ∧ n1 ≤ N ∧ At w p1 n1 f1 ∧ At w p2 n2 f2 ∧ Rg f1 n1 ∧ Rg f2 n2 ∧ val f1 n1 + val f2 n2 = V ∧ i ≤ n1 ∧ Below w.heap.size w w' ∧ Mut w' w.heap.size 0 (n1 + 1) (mix (sm f1 (lm f2 n2) 0) Z i)

theorem add_any (pa pb : Option Addr) (na nb ca cb : Nat) (f g : Nat → Int) (w : World) (hna : na ≤ ca) (hca : ca ≤ 9223372036854775807) (hnb : nb ≤ cb) (hcb : cb ≤ 9223372036854775807) (ha : At w pa na f) (hb : At w pb nb g) (rf : Rg f na) (rg : Rg g nb) (hN : na ≤ 1000000) (hM : nb ≤ 1000000) :
    Calls Try.prog 9 #[.slice pa na ca, .slice pb nb cb] w fun e w' => ∃ v, e = .returned v ∧ New w w' v (na + nb + 1) (val f na + val g nb) := by
  obtain ⟨i0, hi0, hz0, hz1, hz2⟩ := info_parts info64
  have lf := tl_le f na
  have lg := tl_le g nb
  rw [← val_tl f na, ← val_tl g nb]
  have ha' := ha.mono lf
  have hb' := hb.mono lg
  have rf' := rf.mono lf
  have rg' := rg.mono lg
  have T1 := trim_any pa na ca f w hna hca ha
  have T2 := trim_any pb nb cb g w hnb hcb hb
  generalize tl f na = m at *
  generalize tl g nb = k at *
  have H1 : Hid _ := T1
  have H2 : Hid _ := T2
  clear T1 T2 ha hb rf rg
  go_enter Try.func9, Try.ntmps9
  go_wp2_with fail
  refine wp_scope_goto 0 (addJ (val f m + val g k) (na + nb) w) (fun a' _ => 3000000 - slot 7 a') rfl ?_ ?_
  · rintro a' W ⟨p1, p2, n1, n2, c1, c2, f1, f2, i, u8, u9, u10, u11, u12, u13, u14, u15, u16, u17, u18, u19, u20, u21, u22, u23, u24, u25, u26, u27, u28, u29, u30, u31, u32, u33, u34, u35, u36, u37, u38, u39, u40, u41, u42, u43, u44, u45, u46, u47, u48, u49, u50, rfl, h21, h1N, a1, a2, r1, r2, hV, hi, hbel, hM'⟩
    have rl : Rg (lm f2 n2) n1 := lm_rg r2 n1
    clear H1 H2 ha' hb' rf' rg'
    by_cases hlt : i < n1
    · obtain ⟨b1, off1, rfl, hcell⟩ := (a1.below hbel) (by omega)
      have hc1 := hcell i hlt
      have a2' := a2.below hbel
      obtain ⟨hc0, hz⟩ := hM' i (by omega)
      rw [mix_hi (Nat.le_refl i)] at hc0
      have HL : Hid _ := limbAt_any p2 n2 c2 f2 i
      have hs := add64_call (f1 i) (lm f2 n2 i) (cy f1 (lm f2 n2) 0 i) (r1 i hlt).1 (rl i hlt).1 (cy_bd (r1.mono hi) (rl.mono hi) ⟨by decide, by decide⟩)
      have e1 : (f1 i + lm f2 n2 i + cy f1 (lm f2 n2) 0 i) % B64 = sm f1 (lm f2 n2) 0 i := rfl
      have e2 : (f1 i + lm f2 n2 i + cy f1 (lm f2 n2) 0 i) / B64 = cy f1 (lm f2 n2) 0 (i + 1) := rfl
      rw [e1, e2] at hs
      have HV : Hid _ := hV
      clear hcell e1 e2 hV
      simp only [Nat.zero_add] at hc0 hz
      have hb3 : (i : Int) < (n1 : Int) + 1 := by omega
      go_wp2
      go_region_with ((go_at_call 15; refine (HL.out _ (by omega) (by omega) ?_).mono ?_; (exact a2'); rintro e w' ⟨rfl, rfl⟩))
      all_goals
        go_wp2
        go_step3
        refine ⟨rfl, ⟨_, p2, n1, n2, c1, c2, f1, f2, i + 1, _, _, _, _, _, _, _, _, _, _, _, _, _, _, _, _, _, _, _, _, _, _, _, _, _, _, _, _, _, _, _, _, _, _, _, _, _, _, _, _, _, _, _, rfl, h21, h1N, a1, a2, r1, r2, HV.out, by omega, (hbel.setCell (by exact Nat.le_refl _) _).drew, (hM'.step0 (by omega)).drew⟩, ?_⟩
        simp [slot, intOf]; omega
    · have e : i = n1 := by omega
      subst e
      obtain ⟨hc0, hz⟩ := hM' i (by omega)
      simp only [Nat.zero_add] at hc0 hz
      have hb3 : (i : Int) < (i : Int) + 1 := by omega
      have cb := cy_bd r1 rl (c := 0) ⟨by decide, by decide⟩
      have vs := val_sm f1 (lm f2 n2) 0 i
      rw [val_lm f2 n2 i h21, Int.add_zero, hV] at vs
      have hM2 := hM'.set0 (show i < i + 1 by omega) (cy f1 (lm f2 n2) 0 i)
      have hB2 := hbel.setCell (p := ⟨w.heap.size, i, none⟩) (Nat.le_refl _) (.int .u64 (cy f1 (lm f2 n2) 0 i))
      have rgH : Rg (up (mix (sm f1 (lm f2 n2) 0) Z i) i (cy f1 (lm f2 n2) 0 i)) (i + 1) := fun j hj => by
        by_cases e : j = i
        · subst e; rw [up_at, B64_eq]; omega
        · rw [up_ne e, mix_lo (by omega)]; exact sm_rg _ _ _ (i + 1) j hj
      have vH : val (up (mix (sm f1 (lm f2 n2) 0) Z i) i (cy f1 (lm f2 n2) 0 i)) (i + 1) = val f m + val g k := by
        rw [val, up_at, ← vs]
        congr 1
        exact val_congr fun j hj => by rw [up_ne (by omega), mix_lo hj]
      generalize up (mix (sm f1 (lm f2 n2) 0) Z i) i (cy f1 (lm f2 n2) 0 i) = h at *
      have HR : Hid _ := trim_any (some ⟨w.heap.size, 0, none⟩) (i + 1) (i + 1) h _ (Nat.le_refl _) (by omega) hM2.at
      have HM : Hid _ := hM2
      have HB : Hid _ := hB2
      have HV : Hid _ := vH
      have RH : Hid _ := rgH
      clear hM2 hB2 vH rgH vs hV hM'
      go_wp2_with fail
      refine Calls.mono HR.out ?_
      rintro e w' ⟨rfl, rfl⟩
      go_wp2
      simp only [Exit.jump]
      go_ret
      refine ⟨_, rfl, HB.out, w.heap.size, 0, tl h (i + 1), i + 1, h, rfl, Nat.le_refl _, cell_lt (HM.out 0 (by omega)).1, ?_, by omega, MutK.mono HM.out (tl_le _ _), Rg.mono RH.out (tl_le _ _), nm_tl _ _, by rw [val_tl]; exact HV.out⟩
      exact tl_le _ _
  · intro hr
    go_wp2_with fail
    refine Calls.mono H1.out ?_
    rintro e w' ⟨rfl, rfl⟩
    go_wp2_with fail
    refine Calls.mono H2.out ?_
    rintro e w' ⟨rfl, rfl⟩
    by_cases hmk : m < k
    · go_wp2_with (at_make; refine wpList_make_lim _ .u64 rfl _ _ 22 24 rfl Try.underlying22 i0 hi0 hz0 hz1 (by omega) .i64 .i64 _ _ (k + 1) rfl rfl (by omega) (by omega) (by omega) ?_; intro w1 hb1 hs1 hm1)
      go_step3
      rename_i K hK
      refine hK _ _ (hr _ _ ⟨pb, pa, k, m, cb, ca, g, f, 0, _, _, _, _, _, _, _, _, _, _, _, _, _, _, _, _, _, _, _, _, _, _, _, _, _, _, _, _, _, _, _, _, _, _, _, _, _, _, _, _, _, _, _, rfl, by omega, by omega, hb', ha', rg', rf', by omega, by omega, hb1, hm1.congr (fun j _ => (mix_zero _ _ _).symm)⟩)
    · go_wp2_with (at_make; refine wpList_make_lim _ .u64 rfl _ _ 22 24 rfl Try.underlying22 i0 hi0 hz0 hz1 (by omega) .i64 .i64 _ _ (m + 1) rfl rfl (by omega) (by omega) (by omega) ?_; intro w1 hb1 hs1 hm1)
      go_step3
      rename_i K hK
      refine hK _ _ (hr _ _ ⟨pa, pb, m, k, ca, cb, f, g, 0, _, _, _, _, _, _, _, _, _, _, _, _, _, _, _, _, _, _, _, _, _, _, _, _, _, _, _, _, _, _, _, _, _, _, _, _, _, _, _, _, _, _, _, rfl, by omega, by omega, ha', hb', rf', rg', rfl, by omega, hb1, hm1.congr (fun j _ => (mix_zero _ _ _).symm)⟩)
end Go.Proofs.Ytnijhifingdmlab
