/- What the document's plus and minus answer: sums and differences modulo m. -/
import Derived.Test.YtgdmjngajjoliaaDoorWT
namespace Go.Proofs.YtgdmjngajjoliaaDoor
open Go.RowKit
attribute [local go_sem ↓] Go.wp_at_zero Go.wp_at_succ
set_option linter.unusedVariables false

/-- The value v is a slice in new memory of w', of n limbs: the number x. -/
def Fix (w w' : World) (v : Value) (n : Nat) (x : Int) : Prop :=
  Below w.heap.size w w' ∧ ∃ (b off c : Nat) (h : Nat → Int), v = .slice (some ⟨b, off, none⟩) n c ∧ w.heap.size ≤ b ∧ b < w'.heap.size ∧ n ≤ c ∧ c ≤ 1000 ∧ Mut w' b off n h ∧ Rg h n ∧ val h n = x

theorem mod_once {x M : Int} (h0 : 0 ≤ x) (h1 : x < 2 * M) : x % M = if x < M then x else x - M := by
  split
  · exact Int.emod_eq_of_lt h0 (by omega)
  · have e : x % M = (x - M) % M := by rw [Int.sub_emod_right]
    rw [e]; exact Int.emod_eq_of_lt (by omega) (by omega)
theorem mod_neg {x M : Int} (h0 : -M ≤ x) (h1 : x < 0) : x % M = x + M := by
  have e : x % M = (x + M) % M := by rw [Int.add_emod_right]
  rw [e]; exact Int.emod_eq_of_lt (by omega) (by omega)

/-- What is left when m is taken from a number that has one more limb. -/
theorem val_df_top {f m : Nat → Int} {n : Nat} {c : Int} (rf : Rg f n) (rm : Rg m n) (h0 : val m n ≤ val f n + c * pw n) (h1 : val f n + c * pw n - val m n < pw n) (hc : c = 0 ∨ c = 1) :
    val (df f m) n = val f n + c * pw n - val m n := by
  have e := val_df rf rm
  have b := bw_bd f m n
  have d := val_bd (df_rg f m n)
  have p := pw_pos n
  have hb : bw f m n = 0 ∨ bw f m n = 1 := by omega
  rcases hc with rfl | rfl <;> rcases hb with hb | hb <;> rw [hb] at e <;> simp only [Int.zero_mul, Int.one_mul] at * <;> omega

theorem plus_any (pa pb pm : Option Addr) (n ca cb cm : Nat) (f g m : Nat → Int) (w : World) (hn : n ≤ 900) (h0 : 0 < n) (ha : At w pa n f) (hb : At w pb n g) (hm : At w pm n m) (rf : Rg f n) (rg : Rg g n) (rm : Rg m n) (lf : val f n < val m n) (lg : val g n < val m n) :
    Calls Tryd.prog 45 #[.slice pa n ca, .slice pb n cb, .slice pm n cm] w fun e w' => ∃ v, e = .returned v ∧ Fix w w' v n ((val f n + val g n) % val m n) := by
  obtain ⟨i0, hi0, hz0, hz1, hz2⟩ := info_parts info64
  have q8 : i0.bytes ≤ 8 := by omega
  clear hz2
  have bf := val_bd rf
  have bg := val_bd rg
  have bm := val_bd rm
  have E1 := mod_once (x := val f n + val g n) (M := val m n) (by omega) (by omega)
  generalize (val f n + val g n) % val m n = X at *
  have HX : Hid _ := E1
  have LF : Hid _ := lf
  have LG : Hid _ := lg
  clear E1 lf lg
  have hap : ∀ b' o', pm = some ⟨b', o', none⟩ → b' ≠ w.heap.size := hm.apart h0
  go_enter Tryd.func45, Tryd.ntmps45
  go_wp2_with (at_make; refine wpList_make_lim _ .u64 rfl _ _ 30 22 rfl Tryd.underlying30 i0 hi0 hz0 hz1 q8 .i64 .i64 _ _ n rfl rfl (by omega) (by omega) (by omega) ?_; intro w1 hb1 hs1 hm1)
  go_loopw [8, 9] (fun c i wr => ∃ j : Nat, j ≤ n ∧ i = .int .i64 j ∧ c = .int .u64 (cy f g 0 j) ∧ Below w.heap.size w wr ∧ Mut wr w.heap.size 0 n (mix (sm f g 0) Z j)) (fun _ i _ => n - (intOf i).toNat)
  case atStart => exact ⟨0, Nat.zero_le _, rfl, rfl, hb1, hm1.congr (fun j _ => (mix_zero _ _ _).symm)⟩
  case round =>
    obtain ⟨i, hi, rfl, rfl, hbel, hW⟩ := hrel
    clear hb1 hs1 hm1
    have cb0 := cy_bd (rf.mono hi) (rg.mono hi) (c := 0) ⟨by decide, by decide⟩
    by_cases hlt : i < n
    · obtain ⟨b1, o1, rfl, d1⟩ := (ha.below hbel) (by omega)
      obtain ⟨b2, o2, rfl, d2⟩ := (hb.below hbel) (by omega)
      have g1 := d1 i hlt
      have g2 := d2 i hlt
      obtain ⟨g0, gz⟩ := hW i (by omega)
      rw [mix_hi (Nat.le_refl i)] at g0
      simp only [Nat.zero_add] at g0 gz
      have hs := add64_call (f i) (g i) (cy f g 0 i) (rf i hlt).1 (rg i hlt).1 cb0
      rw [show (f i + g i + cy f g 0 i) % B64 = sm f g 0 i from rfl, show (f i + g i + cy f g 0 i) / B64 = cy f g 0 (i + 1) from rfl] at hs
      have HW : Hid _ := hW
      have HB : Hid _ := hbel
      have CB : Hid _ := cb0
      clear hW hbel ha hb hm d1 d2 cb0
      go_wp2
      go_region_with (fail)
      all_goals
        go_wp2
        go_roundw
        case rel => exact ⟨i + 1, by omega, by go_num, rfl, (Below.setCell HB.out (by exact Nat.le_refl _) _).drew, (MutK.step0 HW.out (by omega)).drew⟩
        case measure => simp [intOf]; omega
    · have e : n = i := by omega
      subst e
      have vs := val_sm f g 0 n
      rw [Int.add_zero] at vs
      have rs := sm_rg f g 0 n
      have bs := val_bd rs
      have hM : Mut wr w.heap.size 0 n (sm f g 0) := hW.congr fun j hj => mix_lo hj
      have hsz : w.heap.size < wr.heap.size := cell_lt (hM 0 h0).1
      have hmW := hm.below hbel
      have HB : Hid _ := hbel
      have HM : Hid _ := hM
      have BS : Hid _ := bs
      have BM : Hid _ := bm
      have HZ : Hid _ := hsz
      generalize sm f g 0 = h at *
      have hc : cy f g 0 n = 0 ∨ cy f g 0 n = 1 := by omega
      generalize cy f g 0 n = c at *
      clear hW ha hb hm hM hbel cb0 bf bg bs bm hsz
      rcases hc with rfl | rfl
      · have K : Hid _ := below_any (some ⟨w.heap.size, 0, none⟩) pm n n n cm h m wr (Nat.le_refl _) (by omega) (MutK.at HM.out) hmW rs rm
        have VS : Hid (val h n = val f n + val g n) := by show _ = _; omega
        clear vs
        by_cases hlt2 : val h n < val m n
        · have K2 : Hid _ := K.out
          rw [decide_eq_true hlt2] at K2
          have HL : Hid _ := hlt2
          clear hlt2 K
          go_wp2_with fail
          refine Calls.mono K2.out ?_
          rintro e w2 ⟨rfl, q, rfl⟩
          go_wp2
          go_ret
          refine ⟨_, rfl, below_draws HB.out q, w.heap.size, 0, n, h, rfl, Nat.le_refl _, HZ.out, Nat.le_refl _, by omega, MutK.drewN HM.out q, rs, ?_⟩
          rw [HX.out, if_pos (by rw [← VS.out]; exact HL.out)]; exact VS.out
        · have K2 : Hid _ := K.out
          rw [decide_eq_false hlt2] at K2
          have HL : Hid (val m n ≤ val h n) := by show _ ≤ _; omega
          clear hlt2 K
          go_wp2_with fail
          refine Calls.mono K2.out ?_
          rintro e w2 ⟨rfl, q, rfl⟩
          have S : Hid _ := refSub_any w.heap.size 0 n n h pm n cm m (wr.drewN q) (Nat.le_refl _) (by omega) (MutK.drewN HM.out q) (hmW.drewN q) (fun _ => hap) rs rm
          have HB2 : Hid _ := below_draws HB.out q
          have hz2 : w.heap.size < (wr.drewN q).heap.size := HZ.out
          have HZ2 : Hid _ := hz2
          clear hz2 hmW HZ HB HM
          generalize wr.drewN q = V at *
          go_wp2_with fail
          refine Calls.mono S.out ?_
          rintro e w2 ⟨rfl, hu, hM2⟩
          have HU : Hid _ := hu
          have HM2 : Hid _ := hM2
          clear hu hM2 S
          go_wp2
          go_ret
          have EV := val_df_ge rs rm HL.out
          have hs := Upd.size HU.out
          refine ⟨_, rfl, Below.trans HB2.out (Upd.below HU.out (Nat.le_refl _)), w.heap.size, 0, n, df h m, rfl, Nat.le_refl _, by rw [hs]; exact HZ2.out, Nat.le_refl _, by omega, MutK.congr HM2.out fun j hj => mix_lo hj, df_rg _ _ _, ?_⟩
          have v1 := VS.out
          have v2 := HL.out
          rw [HX.out, EV, if_neg (by omega)]; omega
      · have S : Hid _ := refSub_any w.heap.size 0 n n h pm n cm m wr (Nat.le_refl _) (by omega) HM.out hmW (fun _ => hap) rs rm
        have VS : Hid (val h n + 1 * pw n = val f n + val g n) := by show _ = _; omega
        clear vs hmW HM
        go_wp2_with fail
        refine Calls.mono S.out ?_
        rintro e w2 ⟨rfl, hu, hM2⟩
        have HU : Hid _ := hu
        have HM2 : Hid _ := hM2
        clear hu hM2 S
        go_wp2
        go_ret
        have v1 := VS.out
        have v2 := BM.out
        have v3 := BS.out
        have v4 := LF.out
        have v5 := LG.out
        have EV := val_df_top rs rm (c := 1) (by omega) (by omega) (Or.inr rfl)
        have hs := Upd.size HU.out
        refine ⟨_, rfl, Below.trans HB.out (Upd.below HU.out (Nat.le_refl _)), w.heap.size, 0, n, df h m, rfl, Nat.le_refl _, by rw [hs]; exact HZ.out, Nat.le_refl _, by omega, MutK.congr HM2.out fun j hj => mix_lo hj, df_rg _ _ _, ?_⟩
        rw [HX.out, EV, if_neg (by omega)]; omega

theorem minus_any (pa pb pm : Option Addr) (n ca cb cm : Nat) (f g m : Nat → Int) (w : World) (hn : n ≤ 900) (h0 : 0 < n) (ha : At w pa n f) (hb : At w pb n g) (hm : At w pm n m) (rf : Rg f n) (rg : Rg g n) (rm : Rg m n) (lf : val f n < val m n) (lg : val g n < val m n) :
    Calls Tryd.prog 46 #[.slice pa n ca, .slice pb n cb, .slice pm n cm] w fun e w' => ∃ v, e = .returned v ∧ Fix w w' v n ((val f n - val g n) % val m n) := by
  obtain ⟨i0, hi0, hz0, hz1, hz2⟩ := info_parts info64
  have q8 : i0.bytes ≤ 8 := by omega
  clear hz2
  have bf := val_bd rf
  have bg := val_bd rg
  have bm := val_bd rm
  have E1 : (val f n - val g n) % val m n = if val f n < val g n then val f n - val g n + val m n else val f n - val g n := by
    split
    · exact mod_neg (by omega) (by omega)
    · exact Int.emod_eq_of_lt (by omega) (by omega)
  generalize (val f n - val g n) % val m n = X at *
  have HX : Hid _ := E1
  have LF : Hid _ := lf
  have LG : Hid _ := lg
  clear E1 lf lg
  go_enter Tryd.func46, Tryd.ntmps46
  go_wp2_with (at_make; refine wpList_make_lim _ .u64 rfl _ _ 30 22 rfl Tryd.underlying30 i0 hi0 hz0 hz1 q8 .i64 .i64 _ _ n rfl rfl (by omega) (by omega) (by omega) ?_; intro w1 hb1 hs1 hm1)
  go_loopw [8, 9] (fun c i wr => ∃ j : Nat, j ≤ n ∧ i = .int .i64 j ∧ c = .int .u64 (bw f g j) ∧ Below w.heap.size w wr ∧ Mut wr w.heap.size 0 n (mix (df f g) Z j)) (fun _ i _ => n - (intOf i).toNat)
  case atStart => exact ⟨0, Nat.zero_le _, rfl, rfl, hb1, hm1.congr (fun j _ => (mix_zero _ _ _).symm)⟩
  case round =>
    obtain ⟨i, hi, rfl, rfl, hbel, hW⟩ := hrel
    clear hb1 hs1 hm1
    by_cases hlt : i < n
    · obtain ⟨b1, o1, rfl, d1⟩ := (ha.below hbel) (by omega)
      obtain ⟨b2, o2, rfl, d2⟩ := (hb.below hbel) (by omega)
      have g1 := d1 i hlt
      have g2 := d2 i hlt
      obtain ⟨g0, gz⟩ := hW i (by omega)
      rw [mix_hi (Nat.le_refl i)] at g0
      simp only [Nat.zero_add] at g0 gz
      have hs := sub64_call (f i) (g i) (bw f g i) (rf i hlt) (rg i hlt) (bw_bd _ _ _)
      rw [show (f i + B64 - g i - bw f g i) % B64 = df f g i from rfl, show (if f i < g i + bw f g i then (1 : Int) else 0) = bw f g (i + 1) from rfl] at hs
      have HW : Hid _ := hW
      have HB : Hid _ := hbel
      clear hW hbel ha hb hm d1 d2
      go_wp2
      go_region_with (fail)
      all_goals
        go_wp2
        go_roundw
        case rel => exact ⟨i + 1, by omega, by go_num, rfl, (Below.setCell HB.out (by exact Nat.le_refl _) _).drew, (MutK.step0 HW.out (by omega)).drew⟩
        case measure => simp [intOf]; omega
    · have e : n = i := by omega
      subst e
      have vs := val_df rf rg
      have rs := df_rg f g n
      have bs := val_bd rs
      have cb0 := bw_bd f g n
      have hM : Mut wr w.heap.size 0 n (df f g) := hW.congr fun j hj => mix_lo hj
      have hsz : w.heap.size < wr.heap.size := cell_lt (hM 0 h0).1
      have HMM : Hid _ := hm
      have hap : ∀ b' o', pm = some ⟨b', o', none⟩ → b' ≠ w.heap.size := hm.apart h0
      have HB : Hid _ := hbel
      have HM : Hid _ := hM
      have BS : Hid _ := bs
      have BM : Hid _ := bm
      have BF : Hid _ := bf
      have BG : Hid _ := bg
      have HZ : Hid _ := hsz
      generalize df f g = h at *
      have hc : bw f g n = 0 ∨ bw f g n = 1 := by omega
      generalize bw f g n = c at *
      clear hW ha hb hm hbel cb0 bf bg bs bm hsz
      rcases hc with rfl | rfl
      · have VS : Hid (val h n = val f n - val g n) := by show _ = _; omega
        clear vs hM
        go_wp2
        go_ret
        have v1 := VS.out
        have v2 := BS.out
        refine ⟨_, rfl, HB.out, w.heap.size, 0, n, h, rfl, Nat.le_refl _, HZ.out, Nat.le_refl _, by omega, HM.out, rs, ?_⟩
        rw [HX.out, if_neg (by omega)]; exact v1
      · have VS : Hid (val h n = val f n - val g n + pw n) := by show _ = _; omega
        clear vs
        go_wp2
        go_loopw [8, 10] (fun c i wr => ∃ j : Nat, j ≤ n ∧ i = .int .i64 j ∧ c = .int .u64 (cy h m 0 j) ∧ Below w.heap.size w wr ∧ Mut wr w.heap.size 0 n (mix (sm h m 0) h j)) (fun _ i _ => n - (intOf i).toNat)
        case atStart => exact ⟨0, Nat.zero_le _, rfl, rfl, HB.out, hM.congr (fun j _ => (mix_zero _ _ _).symm)⟩
        case round =>
          obtain ⟨i, hi2, rfl, rfl, hbel, hW⟩ := hrel
          have cb0 := cy_bd (rs.mono hi2) (rm.mono hi2) (c := 0) ⟨by decide, by decide⟩
          clear hM HM HB HZ
          by_cases hlt : i < n
          · obtain ⟨b2, o2, rfl, d2⟩ := (AtK.below HMM.out hbel) (by omega)
            have g2 := d2 i hlt
            obtain ⟨g0, gz⟩ := hW i (by omega)
            rw [mix_hi (Nat.le_refl i)] at g0
            simp only [Nat.zero_add] at g0 gz
            have hs := add64_call (h i) (m i) (cy h m 0 i) (rs i hlt).1 (rm i hlt).1 cb0
            rw [show (h i + m i + cy h m 0 i) % B64 = sm h m 0 i from rfl, show (h i + m i + cy h m 0 i) / B64 = cy h m 0 (i + 1) from rfl] at hs
            have HW : Hid _ := hW
            have HB : Hid _ := hbel
            have CB : Hid _ := cb0
            clear hW hbel d2 cb0
            go_wp2
            go_region_with (fail)
            all_goals
              go_wp2
              go_roundw
              case rel => exact ⟨i + 1, by omega, by go_num, rfl, (Below.setCell HB.out (by exact Nat.le_refl _) _).drew, (MutK.step0 HW.out (by omega)).drew⟩
              case measure => simp [intOf]; omega
          · have e : n = i := by omega
            subst e
            have v0 := val_sm h m 0 n
            have v6 := val_bd (sm_rg h m 0 n)
            have HW : Hid _ := hW
            have HB : Hid _ := hbel
            have V0 : Hid _ := v0
            have V6 : Hid _ := v6
            have CB : Hid _ := cb0
            clear hW hbel v0 v6 cb0
            go_wp2
            go_ret
            have v0 := V0.out
            have v1 := VS.out
            have v2 := BM.out
            have v3 := BS.out
            have v4 := LF.out
            have v5 := BG.out
            have v6 := V6.out
            have v7 := CB.out
            have v8 := BF.out
            have v9 := LG.out
            refine ⟨_, rfl, HB.out, w.heap.size, 0, n, sm h m 0, rfl, Nat.le_refl _, cell_lt (HW.out 0 h0).1, Nat.le_refl _, by omega, MutK.congr HW.out fun j hj => mix_lo hj, sm_rg _ _ _ _, ?_⟩
            have hc : cy h m 0 n = 0 ∨ cy h m 0 n = 1 := by omega
            rw [HX.out, if_pos (by omega)]
            rcases hc with e | e <;> rw [e] at v0 <;> simp only [Int.zero_mul, Int.one_mul] at v0 <;> omega
end Go.Proofs.YtgdmjngajjoliaaDoor
