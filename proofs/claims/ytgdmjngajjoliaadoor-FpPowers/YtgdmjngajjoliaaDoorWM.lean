/- What the document's Less answers. -/
import Derived.Test.YtgdmjngajjoliaaDoorWL
namespace Go.Proofs.YtgdmjngajjoliaaDoor
open Go.RowKit
set_option linter.unusedVariables false

theorem refLess_less (pa pb : Option Addr) (na nb ca cb : Nat) (f g : Nat → Int) (w : World) (hna : na ≤ ca) (hca : ca ≤ 9223372036854775807) (hnb : nb ≤ cb) (hcb : cb ≤ 9223372036854775807) (ha : At w pa na f) (hb : At w pb nb g) (rf : Rg f na) (rg : Rg g nb) (h : val f na < val g nb) (hN : na ≤ 100000) (hM : nb ≤ 100000) :
    Calls Tryd.prog 37 #[.slice pa na ca, .slice pb nb cb] w fun e w' => e = .returned (.tuple #[.slice none 0 0, .int .i64 1]) ∧ Below w.heap.size w w' := by
  have C := refCompare_any pa pb na nb ca cb f g w hna hca hnb hcb ha hb rf rg (by omega) (by omega)
  rw [ord_lt h] at C
  have HC : Hid _ := C
  clear C
  go_enter Tryd.func37, Tryd.ntmps37
  go_wp2_with fail
  refine Calls.mono HC.out ?_
  rintro e w0 ⟨rfl, hb0⟩
  go_wp2
  go_ret2
  exact ⟨rfl, hb0⟩

theorem refLess_any (pa pb : Option Addr) (na nb ca cb : Nat) (f g : Nat → Int) (w : World) (hna : na ≤ ca) (hca : ca ≤ 9223372036854775807) (hnb : nb ≤ cb) (hcb : cb ≤ 9223372036854775807) (ha : At w pa na f) (hb : At w pb nb g) (rf : Rg f na) (rg : Rg g nb) (h : val g nb ≤ val f na) (hN : na ≤ 100000) (hM : nb ≤ 100000) :
    Calls Tryd.prog 37 #[.slice pa na ca, .slice pb nb cb] w fun e w' => ∃ v, e = .returned (.tuple #[v, .int .i64 0]) ∧ NewP w w' v (na + nb) (val f na - val g nb) := by
  obtain ⟨i0, hi0, hz0, hz1, hz2⟩ := info_parts info64
  have q8 : i0.bytes ≤ 8 := by omega
  clear hz2
  have C := refCompare_any pa pb na nb ca cb f g w hna hca hnb hcb ha hb rf rg (by omega) (by omega)
  have o1 : 0 ≤ ord (val f na) (val g nb) := by have := @ord_neg_iff (val f na) (val g nb); omega
  have HG : Hid _ := h
  clear h
  generalize ord (val f na) (val g nb) = o at *
  have HC : Hid _ := C
  clear C
  rcases Nat.lt_or_ge na nb with c | c
  · have m1 : na ≤ nb := by omega
    have m2 : nb ≤ nb := by omega
    have rF : Rg (lm f na) nb := lm_rg rf nb
    have rG : Rg (lm g nb) nb := lm_rg rg nb
    go_enter Tryd.func37, Tryd.ntmps37
    go_wp2_with fail
    refine Calls.mono HC.out ?_
    rintro e w0 ⟨rfl, hb0⟩
    go_wp2
    go_loopw [6, 7, 8] (fun v c i wr => ∃ k : Nat, k ≤ nb ∧ i = .int .i64 k ∧ c = .int .u64 (bw (lm f na) (lm g nb) k) ∧ Own wr w.heap.size 22 .u64 v k (df (lm f na) (lm g nb)) ∧ Below w.heap.size w wr) (fun _ _ i _ => nb - (intOf i).toNat)
    case atStart => exact ⟨0, Nat.zero_le _, rfl, rfl, Own.nil _ _ _ _ _, hb0⟩
    case round =>
      obtain ⟨k, hk, rfl, rfl, ho, hbel⟩ := hrel
      have hsz : ∀ o, w.heap.size ≤ (wr.alloc o).heap.size := fun o => by have := hbel.size; rw [World.size_alloc]; omega
      have hB1 : ∀ o, Below w.heap.size w (wr.alloc o) := fun o => Below.up hbel (Nat.le_refl _) (below_one _ _)
      have HSZ : Hid _ := hsz
      have HB1 : Hid _ := hB1
      clear hsz hB1
      by_cases hlt : k < nb
      · have L1 : Hid _ := refLimb_any pa na ca f k wr (by omega) (by omega) (ha.below hbel)
        have L2 : Hid _ := refLimb_any pb nb cb g k wr (by omega) (by omega) (hb.below hbel)
        have hs := sub64_call (lm f na k) (lm g nb k) (bw (lm f na) (lm g nb) k) (rF k hlt) (rG k hlt) (bw_bd _ _ _)
        rw [show (lm f na k + B64 - lm g nb k - bw (lm f na) (lm g nb) k) % B64 = df (lm f na) (lm g nb) k from rfl, show (if lm f na k < lm g nb k + bw (lm f na) (lm g nb) k then (1 : Int) else 0) = bw (lm f na) (lm g nb) (k + 1) from rfl] at hs
        clear hbel
        have q1 : k + 1 ≤ 2000000 := by omega
        go_wp2_with fail
        refine Calls.mono L1.out ?_
        rintro e w1 ⟨rfl, rfl⟩
        go_wp2_with fail
        refine Calls.mono L2.out ?_
        rintro e w1 ⟨rfl, rfl⟩
        go_wp2_with (at_builtin; refine wpList_append_lim .u64 rfl (.tmp 35) (.tmp 37) 30 (by rfl) w.heap.size 22 i0 Tryd.underlying30 hi0 hz0 hz1 q8 _ k (df (lm f na) (lm g nb)) (by rfl) (ho.below (below_one _ _)) (some ⟨w1.heap.size, 0, none⟩) 1 1 (one (df (lm f na) (lm g nb) k)) (by rfl) (at_one _ _ _) q1 (HSZ.out _) ?_; intro v' w2 ho2 hb2)
        have ho3 : Own w2 w.heap.size 22 .u64 v' (k + 1) (df (lm f na) (lm g nb)) := ho2.congr fun j hj => cat_next hj
        have HO : Hid _ := ho3
        have HB : Hid _ := (HB1.out _).trans hb2
        clear ho2 ho3 hb2 ho
        go_wp2
        go_roundw
        case rel => exact ⟨k + 1, by omega, by go_num, rfl, HO.out, HB.out⟩
        case measure => simp [intOf]; omega
      · have e : nb = k := by omega
        subst e
        have rH := df_rg (lm f na) (lm g nb) nb
        have vH := val_df_ge rF rG (by rw [val_lm f na nb m1, val_lm g nb nb m2]; exact HG.out)
        rw [val_lm f na nb m1, val_lm g nb nb m2] at vH
        have VH : Hid _ := vH
        clear vH
        generalize df (lm f na) (lm g nb) = h at *
        have HB : Hid _ := hbel
        obtain ⟨p', c', rfl, k1, k2, k3⟩ := ho.slice
        have HR : Hid _ := cut_own p' nb c' h wr k1 k2 k3 (by omega)
        clear ho hbel
        go_wp2_with fail
        refine Calls.mono HR.out ?_
        rintro e w3 ⟨v3, rfl, hb3, ho3⟩
        have HO : Hid _ := ho3
        have HB3 : Hid _ := Below.up HB.out (Nat.le_refl _) hb3
        clear ho3 hb3
        go_wp2
        go_ret2
        exact ⟨_, rfl, Own.newP (Own.base HO.out (Below.size HB.out)) HB3.out (by have := tl_le h nb; omega) (Rg.mono rH (tl_le _ _)) (nm_tl _ _) (by rw [val_tl]; exact VH.out)⟩
  · have m1 : na ≤ na := by omega
    have m2 : nb ≤ na := by omega
    have rF : Rg (lm f na) na := lm_rg rf na
    have rG : Rg (lm g nb) na := lm_rg rg na
    go_enter Tryd.func37, Tryd.ntmps37
    go_wp2_with fail
    refine Calls.mono HC.out ?_
    rintro e w0 ⟨rfl, hb0⟩
    go_wp2
    go_loopw [6, 7, 8] (fun v c i wr => ∃ k : Nat, k ≤ na ∧ i = .int .i64 k ∧ c = .int .u64 (bw (lm f na) (lm g nb) k) ∧ Own wr w.heap.size 22 .u64 v k (df (lm f na) (lm g nb)) ∧ Below w.heap.size w wr) (fun _ _ i _ => na - (intOf i).toNat)
    case atStart => exact ⟨0, Nat.zero_le _, rfl, rfl, Own.nil _ _ _ _ _, hb0⟩
    case round =>
      obtain ⟨k, hk, rfl, rfl, ho, hbel⟩ := hrel
      have hsz : ∀ o, w.heap.size ≤ (wr.alloc o).heap.size := fun o => by have := hbel.size; rw [World.size_alloc]; omega
      have hB1 : ∀ o, Below w.heap.size w (wr.alloc o) := fun o => Below.up hbel (Nat.le_refl _) (below_one _ _)
      have HSZ : Hid _ := hsz
      have HB1 : Hid _ := hB1
      clear hsz hB1
      by_cases hlt : k < na
      · have L1 : Hid _ := refLimb_any pa na ca f k wr (by omega) (by omega) (ha.below hbel)
        have L2 : Hid _ := refLimb_any pb nb cb g k wr (by omega) (by omega) (hb.below hbel)
        have hs := sub64_call (lm f na k) (lm g nb k) (bw (lm f na) (lm g nb) k) (rF k hlt) (rG k hlt) (bw_bd _ _ _)
        rw [show (lm f na k + B64 - lm g nb k - bw (lm f na) (lm g nb) k) % B64 = df (lm f na) (lm g nb) k from rfl, show (if lm f na k < lm g nb k + bw (lm f na) (lm g nb) k then (1 : Int) else 0) = bw (lm f na) (lm g nb) (k + 1) from rfl] at hs
        clear hbel
        have q1 : k + 1 ≤ 2000000 := by omega
        go_wp2_with fail
        refine Calls.mono L1.out ?_
        rintro e w1 ⟨rfl, rfl⟩
        go_wp2_with fail
        refine Calls.mono L2.out ?_
        rintro e w1 ⟨rfl, rfl⟩
        go_wp2_with (at_builtin; refine wpList_append_lim .u64 rfl (.tmp 35) (.tmp 37) 30 (by rfl) w.heap.size 22 i0 Tryd.underlying30 hi0 hz0 hz1 q8 _ k (df (lm f na) (lm g nb)) (by rfl) (ho.below (below_one _ _)) (some ⟨w1.heap.size, 0, none⟩) 1 1 (one (df (lm f na) (lm g nb) k)) (by rfl) (at_one _ _ _) q1 (HSZ.out _) ?_; intro v' w2 ho2 hb2)
        have ho3 : Own w2 w.heap.size 22 .u64 v' (k + 1) (df (lm f na) (lm g nb)) := ho2.congr fun j hj => cat_next hj
        have HO : Hid _ := ho3
        have HB : Hid _ := (HB1.out _).trans hb2
        clear ho2 ho3 hb2 ho
        go_wp2
        go_roundw
        case rel => exact ⟨k + 1, by omega, by go_num, rfl, HO.out, HB.out⟩
        case measure => simp [intOf]; omega
      · have e : na = k := by omega
        subst e
        have rH := df_rg (lm f na) (lm g nb) na
        have vH := val_df_ge rF rG (by rw [val_lm f na na m1, val_lm g nb na m2]; exact HG.out)
        rw [val_lm f na na m1, val_lm g nb na m2] at vH
        have VH : Hid _ := vH
        clear vH
        generalize df (lm f na) (lm g nb) = h at *
        have HB : Hid _ := hbel
        obtain ⟨p', c', rfl, k1, k2, k3⟩ := ho.slice
        have HR : Hid _ := cut_own p' na c' h wr k1 k2 k3 (by omega)
        clear ho hbel
        go_wp2_with fail
        refine Calls.mono HR.out ?_
        rintro e w3 ⟨v3, rfl, hb3, ho3⟩
        have HO : Hid _ := ho3
        have HB3 : Hid _ := Below.up HB.out (Nat.le_refl _) hb3
        clear ho3 hb3
        go_wp2
        go_ret2
        exact ⟨_, rfl, Own.newP (Own.base HO.out (Below.size HB.out)) HB3.out (by have := tl_le h na; omega) (Rg.mono rH (tl_le _ _)) (nm_tl _ _) (by rw [val_tl]; exact VH.out)⟩
end Go.Proofs.YtgdmjngajjoliaaDoor
