/- What the document's Compare, Sum and Less answer. -/
import Derived.Test.YtgdmjngajjoliaaDoorWK
import Derived.WalkSpells
namespace Go.Proofs.YtgdmjngajjoliaaDoor
open Go.RowKit
set_option linter.unusedVariables false

theorem cut_any (p : Option Addr) (n cap : Nat) (f : Nat → Int) (w : World) (hn : n ≤ cap) (hcap : cap ≤ 9223372036854775807) (hc : At w p n f) (hN : n ≤ 1000000) :
    Calls Tryd.prog 51 #[.slice p n cap] w fun e w' => ∃ p' c', e = .returned (.slice p' (tl f n) c') ∧ Below w.heap.size w w' ∧ At w' p' (tl f n) f ∧ tl f n ≤ c' ∧ c' ≤ 9223372036854775807 := by
  refine (cut_own p n cap f w hn hcap hc hN).mono ?_
  rintro e w' ⟨v, rfl, hb, ho⟩
  rcases ho.form with ⟨rfl, h0⟩ | ⟨g, cap', rfl, _, _, h1, h2, h3⟩
  · rw [h0]; exact ⟨none, 0, rfl, hb, AtK.nil, Nat.le_refl _, by decide⟩
  · exact ⟨_, cap', rfl, hb, h3.at, h1, h2⟩

theorem refCompare_any (pa pb : Option Addr) (na nb ca cb : Nat) (f g : Nat → Int) (w : World) (hna : na ≤ ca) (hca : ca ≤ 9223372036854775807) (hnb : nb ≤ cb) (hcb : cb ≤ 9223372036854775807) (ha : At w pa na f) (hb : At w pb nb g) (rf : Rg f na) (rg : Rg g nb) (hN : na ≤ 1000000) (hM : nb ≤ 1000000) :
    Calls Tryd.prog 24 #[.slice pa na ca, .slice pb nb cb] w fun e w' => e = .returned (.int .i64 (ord (val f na) (val g nb))) ∧ Below w.heap.size w w' := by
  have lf := tl_le f na
  have lg := tl_le g nb
  have K1 : Hid _ := cut_any pa na ca f w hna hca ha hN
  have K2 : ∀ w1, Below w.heap.size w w1 → Hid _ := fun w1 h => cut_any pb nb cb g w1 hnb hcb (hb.below h) hM
  rw [← val_tl f na, ← val_tl g nb]
  have rf' := rf.mono lf
  have rg' := rg.mono lg
  have nf := nm_tl f na
  have ng := nm_tl g nb
  have E0 : tl f na ≠ tl g nb → Hid (ord (val f (tl f na)) (val g (tl g nb)) = ord ((tl f na : Nat) : Int) ((tl g nb : Nat) : Int)) := fun h => ord_len rf' rg' nf ng h
  clear ha hb rf rg
  generalize tl f na = m at *
  generalize tl g nb = k at *
  by_cases h : m = k
  · subst h
    clear E0
    go_enter Tryd.func24, Tryd.ntmps24
    go_wp2_with fail
    refine Calls.mono K1.out ?_
    rintro e w1 ⟨p1, c1, rfl, B1, a1, l1, l1'⟩
    go_wp2_with fail
    refine Calls.mono (K2 w1 B1).out ?_
    rintro e w2 ⟨p2, c2, rfl, B2, a2, l2, l2'⟩
    replace a1 := a1.below B2
    have B3 := Below.up B1 (Nat.le_refl _) B2
    clear K1 K2 B1 B2
    go_wp2
    go_loopw [5] (fun i wr => ∃ j q : Nat, j ≤ m ∧ i = .int .i64 ((j : Int) - 1) ∧ (∀ t, j ≤ t → t < m → f t = g t) ∧ wr = w2.drewN q) (fun i _ => (intOf i + 1).toNat)
    case atStart => exact ⟨m, 0, Nat.le_refl _, rfl, fun t h1 h2 => absurd h1 (by omega), rfl⟩
    case round =>
      obtain ⟨j, q, hj, rfl, ht, hq⟩ := hrel
      cases j with
      | zero =>
        have E : Hid _ := ord_eq (val_congr (f := f) (g := g) (n := m) (fun i hi => ht i (by omega) hi))
        have HQ : Hid _ := hq
        clear ht hq a1 a2
        go_wp2
        go_ret
        exact ⟨by rw [E.out]; rfl, by rw [HQ.out]; exact below_draws B3 q⟩
      | succ j =>
        obtain ⟨b1, o1, rfl, d1⟩ := a1 (by omega)
        obtain ⟨b2, o2, rfl, d2⟩ := a2 (by omega)
        have g1 : wr.cell? ⟨b1, o1 + j, none⟩ = some (.int .u64 (f j)) := by rw [hq]; exact d1 j (by omega)
        have g2 : wr.cell? ⟨b2, o2 + j, none⟩ = some (.int .u64 (g j)) := by rw [hq]; exact d2 j (by omega)
        have HQ : Hid _ := hq
        have HT : Hid _ := ht
        clear hq ht a1 a2 d1 d2
        rw [show ((j + 1 : Nat) : Int) - 1 = (j : Int) by omega]
        by_cases hlt : f j < g j
        · have E : Hid _ := (ord_at rf' rg' (k := j) (by omega) (fun t h1 h2 => HT.out t (by omega) h2) (by omega)).trans (ord_lt hlt)
          go_wp2
          go_quiet (fail)
          go_wp2
          go_ret
          exact ⟨by rw [E.out]; rfl, below_draws (by rw [HQ.out]; exact below_draws B3 q) nq⟩
        · go_wp2
          go_quiet (fail)
          go_wp2
          have g3 : (wr.drewN nq).cell? ⟨b1, o1 + j, none⟩ = some (.int .u64 (f j)) := g1
          have g4 : (wr.drewN nq).cell? ⟨b2, o2 + j, none⟩ = some (.int .u64 (g j)) := g2
          have BV : Below w.heap.size w (wr.drewN nq) := below_draws (by rw [HQ.out]; exact below_draws B3 q) nq
          have QV : Hid (wr.drewN nq = w2.drewN (q + nq)) := by show _ = _; rw [HQ.out, World.drewN_drewN]
          clear g1 g2
          generalize wr.drewN nq = V at *
          by_cases hgt : g j < f j
          · have E : Hid _ := (ord_at rf' rg' (k := j) (by omega) (fun t h1 h2 => HT.out t (by omega) h2) (by omega)).trans (ord_gt hgt)
            go_quiet (fail)
            go_wp2
            go_ret
            exact ⟨by rw [E.out]; rfl, below_draws BV _⟩
          · go_quiet (fail)
            go_wp2
            go_roundw
            case rel =>
              refine ⟨j, _, by omega, by go_num, ?_, by rw [QV.out, World.drewN_drewN]⟩
              intro t h1 h2
              by_cases e : t = j
              · subst e; omega
              · exact HT.out t (by omega) h2
            case measure => simp [intOf]
  · have E := E0 h
    clear E0
    have hd : ((m : Int) == (k : Int)) = false := by simp; omega
    rcases Nat.lt_or_ge m k with c | c
    · have E2 : Hid _ := E.out.trans (ord_lt (by omega))
      go_enter Tryd.func24, Tryd.ntmps24
      go_wp2_with fail
      refine Calls.mono K1.out ?_
      rintro e w1 ⟨p1, c1, rfl, B1, a1, l1, l1'⟩
      go_wp2_with fail
      refine Calls.mono (K2 w1 B1).out ?_
      rintro e w2 ⟨p2, c2, rfl, B2, a2, l2, l2'⟩
      have B3 := Below.up B1 (Nat.le_refl _) B2
      go_wp2
      go_ret
      exact ⟨by rw [E2.out]; rfl, B3⟩
    · have E2 : Hid _ := E.out.trans (ord_gt (by omega))
      go_enter Tryd.func24, Tryd.ntmps24
      go_wp2_with fail
      refine Calls.mono K1.out ?_
      rintro e w1 ⟨p1, c1, rfl, B1, a1, l1, l1'⟩
      go_wp2_with fail
      refine Calls.mono (K2 w1 B1).out ?_
      rintro e w2 ⟨p2, c2, rfl, B2, a2, l2, l2'⟩
      have B3 := Below.up B1 (Nat.le_refl _) B2
      go_wp2
      go_ret
      exact ⟨by rw [E2.out]; rfl, B3⟩

theorem Own.slice {w : World} {B e : Nat} {k : IntKind} {v : Value} {n : Nat} {f : Nat → Int} (h : Own w B e k v n f) : ∃ p c, v = .slice p n c ∧ n ≤ c ∧ c ≤ 9223372036854775807 ∧ AtK k w p n f := by
  rcases h.form with ⟨rfl, rfl⟩ | ⟨g, cap, rfl, _, _, h1, h2, h3⟩
  · exact ⟨none, 0, rfl, Nat.le_refl _, by decide, AtK.nil⟩
  · exact ⟨_, cap, rfl, h1, h2, h3.at⟩
theorem Own.base {w : World} {B B' e : Nat} {k : IntKind} {v : Value} {n : Nat} {f : Nat → Int} (h : Own w B e k v n f) (hB : B' ≤ B) : Own w B' e k v n f := by
  refine ⟨h.1, ?_⟩
  rcases h.2 with h2 | ⟨g, cap, cur, hv, hb, r⟩
  · exact Or.inl h2
  · exact Or.inr ⟨g, cap, cur, hv, Nat.le_trans hB hb, r⟩
/-- What is appended next. -/
theorem cat_next {f : Nat → Int} {k j : Nat} (h : j < k + 1) : cat f k (one (f k)) j = f j := by
  by_cases c : j < k
  · rw [cat_lo c]
  · have e : j = k := by omega
    subst e
    rw [cat_hi (Nat.le_refl _), Nat.sub_self]; rfl

theorem refSum_any (pa pb : Option Addr) (na nb ca cb : Nat) (f g : Nat → Int) (w : World) (hna : na ≤ ca) (hca : ca ≤ 9223372036854775807) (hnb : nb ≤ cb) (hcb : cb ≤ 9223372036854775807) (ha : At w pa na f) (hb : At w pb nb g) (rf : Rg f na) (rg : Rg g nb) (hN : na ≤ 100000) (hM : nb ≤ 100000) :
    Calls Tryd.prog 38 #[.slice pa na ca, .slice pb nb cb] w fun e w' => ∃ v, e = .returned v ∧ NewP w w' v (na + nb + 1) (val f na + val g nb) := by
  obtain ⟨i0, hi0, hz0, hz1, hz2⟩ := info_parts info64
  have q8 : i0.bytes ≤ 8 := by omega
  clear hz2
  rcases Nat.lt_or_ge na nb with c | c
  · have m1 : na ≤ nb := by omega
    have m2 : nb ≤ nb := by omega
    have rF : Rg (lm f na) nb := lm_rg rf nb
    have rG : Rg (lm g nb) nb := lm_rg rg nb
    go_enter Tryd.func38, Tryd.ntmps38
    go_wp2
    go_loopw [5, 6, 7] (fun v c i wr => ∃ k : Nat, k ≤ nb ∧ i = .int .i64 k ∧ c = .int .u64 (cy (lm f na) (lm g nb) 0 k) ∧ Own wr w.heap.size 22 .u64 v k (sm (lm f na) (lm g nb) 0) ∧ Below w.heap.size w wr) (fun _ _ i _ => nb - (intOf i).toNat)
    case atStart => exact ⟨0, Nat.zero_le _, rfl, rfl, Own.nil _ _ _ _ _, Below.refl _ _⟩
    case round =>
      obtain ⟨k, hk, rfl, rfl, ho, hbel⟩ := hrel
      have cb0 := cy_bd (rF.mono hk) (rG.mono hk) (c := 0) ⟨by decide, by decide⟩
      have hsz : ∀ o, w.heap.size ≤ (wr.alloc o).heap.size := fun o => by have := hbel.size; rw [World.size_alloc]; omega
      have hB1 : ∀ o, Below w.heap.size w (wr.alloc o) := fun o => Below.up hbel (Nat.le_refl _) (below_one _ _)
      have HSZ : Hid _ := hsz
      have HB1 : Hid _ := hB1
      clear hsz hB1
      by_cases hlt : k < nb
      · have L1 : Hid _ := refLimb_any pa na ca f k wr (by omega) (by omega) (ha.below hbel)
        have L2 : Hid _ := refLimb_any pb nb cb g k wr (by omega) (by omega) (hb.below hbel)
        have hs := add64_call (lm f na k) (lm g nb k) (cy (lm f na) (lm g nb) 0 k) (rF k hlt).1 (rG k hlt).1 cb0
        rw [show (lm f na k + lm g nb k + cy (lm f na) (lm g nb) 0 k) % B64 = sm (lm f na) (lm g nb) 0 k from rfl, show (lm f na k + lm g nb k + cy (lm f na) (lm g nb) 0 k) / B64 = cy (lm f na) (lm g nb) 0 (k + 1) from rfl] at hs
        have CB : Hid _ := cb0
        clear cb0 hbel
        have q1 : k + 1 ≤ 2000000 := by omega
        go_wp2_with fail
        refine Calls.mono L1.out ?_
        rintro e w1 ⟨rfl, rfl⟩
        go_wp2_with fail
        refine Calls.mono L2.out ?_
        rintro e w1 ⟨rfl, rfl⟩
        go_wp2_with (at_builtin; refine wpList_append_lim .u64 rfl (.tmp 30) (.tmp 32) 30 (by rfl) w.heap.size 22 i0 Tryd.underlying30 hi0 hz0 hz1 q8 _ k (sm (lm f na) (lm g nb) 0) (by rfl) (ho.below (below_one _ _)) (some ⟨w1.heap.size, 0, none⟩) 1 1 (one (sm (lm f na) (lm g nb) 0 k)) (by rfl) (at_one _ _ _) q1 (HSZ.out _) ?_; intro v' w2 ho2 hb2)
        have ho3 : Own w2 w.heap.size 22 .u64 v' (k + 1) (sm (lm f na) (lm g nb) 0) := ho2.congr fun j hj => cat_next hj
        have HO : Hid _ := ho3
        have HB : Hid _ := (HB1.out _).trans hb2
        clear ho2 ho3 hb2 ho
        go_wp2
        go_roundw
        case rel => exact ⟨k + 1, by omega, by go_num, rfl, HO.out, HB.out⟩
        case measure => simp [intOf]; omega
      · have e : nb = k := by omega
        subst e
        have vs := val_sm (lm f na) (lm g nb) 0 nb
        rw [val_lm f na nb m1, val_lm g nb nb m2, Int.add_zero] at vs
        have q1 : nb + 1 ≤ 2000000 := by omega
        have rH : Rg (cat (sm (lm f na) (lm g nb) 0) nb (one (cy (lm f na) (lm g nb) 0 nb))) (nb + 1) := fun j hj => by
          by_cases c : j < nb
          · rw [cat_lo c]; exact sm_rg _ _ _ nb j c
          · rw [cat_hi (by omega)]; exact one_rg ⟨cb0.1, by rw [B64_eq]; omega⟩ 1 _ (by omega)
        have vH : val (cat (sm (lm f na) (lm g nb) 0) nb (one (cy (lm f na) (lm g nb) 0 nb))) (nb + 1) = val f na + val g nb := by
          rw [val, val_congr (fun j hj => cat_lo hj), cat_hi (Nat.le_refl _), Nat.sub_self, ← vs]; rfl
        have VH : Hid _ := vH
        have CB : Hid _ := cb0
        clear vs vH cb0
        go_wp2_with (at_builtin; refine wpList_append_lim .u64 rfl (.tmp 35) (.tmp 37) 30 (by rfl) w.heap.size 22 i0 Tryd.underlying30 hi0 hz0 hz1 q8 _ nb (sm (lm f na) (lm g nb) 0) (by rfl) (ho.below (below_one _ _)) (some ⟨wr.heap.size, 0, none⟩) 1 1 (one (cy (lm f na) (lm g nb) 0 nb)) (by rfl) (at_one _ _ _) q1 (HSZ.out _) ?_; intro v' w2 ho2 hb2)
        generalize cat (sm (lm f na) (lm g nb) 0) nb (one (cy (lm f na) (lm g nb) 0 nb)) = h at *
        have HB : Hid _ := (HB1.out _).trans hb2
        clear hb2 ho
        obtain ⟨p', c', rfl, k1, k2, k3⟩ := ho2.slice
        have HR : Hid _ := cut_own p' (nb + 1) c' h w2 k1 k2 k3 (by omega)
        clear ho2
        go_wp2_with fail
        refine Calls.mono HR.out ?_
        rintro e w3 ⟨v3, rfl, hb3, ho3⟩
        have HO : Hid _ := ho3
        have HB3 : Hid _ := Below.up HB.out (Nat.le_refl _) hb3
        have ls := hb3.size
        clear ho3 hb3
        go_wp2
        go_ret
        exact ⟨_, rfl, Own.newP (Own.base HO.out (Below.size HB.out)) HB3.out (by have := tl_le h (nb + 1); omega) (Rg.mono rH (tl_le _ _)) (nm_tl _ _) (by rw [val_tl]; exact VH.out)⟩
  · have m1 : na ≤ na := by omega
    have m2 : nb ≤ na := by omega
    have rF : Rg (lm f na) na := lm_rg rf na
    have rG : Rg (lm g nb) na := lm_rg rg na
    go_enter Tryd.func38, Tryd.ntmps38
    go_wp2
    go_loopw [5, 6, 7] (fun v c i wr => ∃ k : Nat, k ≤ na ∧ i = .int .i64 k ∧ c = .int .u64 (cy (lm f na) (lm g nb) 0 k) ∧ Own wr w.heap.size 22 .u64 v k (sm (lm f na) (lm g nb) 0) ∧ Below w.heap.size w wr) (fun _ _ i _ => na - (intOf i).toNat)
    case atStart => exact ⟨0, Nat.zero_le _, rfl, rfl, Own.nil _ _ _ _ _, Below.refl _ _⟩
    case round =>
      obtain ⟨k, hk, rfl, rfl, ho, hbel⟩ := hrel
      have cb0 := cy_bd (rF.mono hk) (rG.mono hk) (c := 0) ⟨by decide, by decide⟩
      have hsz : ∀ o, w.heap.size ≤ (wr.alloc o).heap.size := fun o => by have := hbel.size; rw [World.size_alloc]; omega
      have hB1 : ∀ o, Below w.heap.size w (wr.alloc o) := fun o => Below.up hbel (Nat.le_refl _) (below_one _ _)
      have HSZ : Hid _ := hsz
      have HB1 : Hid _ := hB1
      clear hsz hB1
      by_cases hlt : k < na
      · have L1 : Hid _ := refLimb_any pa na ca f k wr (by omega) (by omega) (ha.below hbel)
        have L2 : Hid _ := refLimb_any pb nb cb g k wr (by omega) (by omega) (hb.below hbel)
        have hs := add64_call (lm f na k) (lm g nb k) (cy (lm f na) (lm g nb) 0 k) (rF k hlt).1 (rG k hlt).1 cb0
        rw [show (lm f na k + lm g nb k + cy (lm f na) (lm g nb) 0 k) % B64 = sm (lm f na) (lm g nb) 0 k from rfl, show (lm f na k + lm g nb k + cy (lm f na) (lm g nb) 0 k) / B64 = cy (lm f na) (lm g nb) 0 (k + 1) from rfl] at hs
        have CB : Hid _ := cb0
        clear cb0 hbel
        have q1 : k + 1 ≤ 2000000 := by omega
        go_wp2_with fail
        refine Calls.mono L1.out ?_
        rintro e w1 ⟨rfl, rfl⟩
        go_wp2_with fail
        refine Calls.mono L2.out ?_
        rintro e w1 ⟨rfl, rfl⟩
        go_wp2_with (at_builtin; refine wpList_append_lim .u64 rfl (.tmp 30) (.tmp 32) 30 (by rfl) w.heap.size 22 i0 Tryd.underlying30 hi0 hz0 hz1 q8 _ k (sm (lm f na) (lm g nb) 0) (by rfl) (ho.below (below_one _ _)) (some ⟨w1.heap.size, 0, none⟩) 1 1 (one (sm (lm f na) (lm g nb) 0 k)) (by rfl) (at_one _ _ _) q1 (HSZ.out _) ?_; intro v' w2 ho2 hb2)
        have ho3 : Own w2 w.heap.size 22 .u64 v' (k + 1) (sm (lm f na) (lm g nb) 0) := ho2.congr fun j hj => cat_next hj
        have HO : Hid _ := ho3
        have HB : Hid _ := (HB1.out _).trans hb2
        clear ho2 ho3 hb2 ho
        go_wp2
        go_roundw
        case rel => exact ⟨k + 1, by omega, by go_num, rfl, HO.out, HB.out⟩
        case measure => simp [intOf]; omega
      · have e : na = k := by omega
        subst e
        have vs := val_sm (lm f na) (lm g nb) 0 na
        rw [val_lm f na na m1, val_lm g nb na m2, Int.add_zero] at vs
        have q1 : na + 1 ≤ 2000000 := by omega
        have rH : Rg (cat (sm (lm f na) (lm g nb) 0) na (one (cy (lm f na) (lm g nb) 0 na))) (na + 1) := fun j hj => by
          by_cases c : j < na
          · rw [cat_lo c]; exact sm_rg _ _ _ na j c
          · rw [cat_hi (by omega)]; exact one_rg ⟨cb0.1, by rw [B64_eq]; omega⟩ 1 _ (by omega)
        have vH : val (cat (sm (lm f na) (lm g nb) 0) na (one (cy (lm f na) (lm g nb) 0 na))) (na + 1) = val f na + val g nb := by
          rw [val, val_congr (fun j hj => cat_lo hj), cat_hi (Nat.le_refl _), Nat.sub_self, ← vs]; rfl
        have VH : Hid _ := vH
        have CB : Hid _ := cb0
        clear vs vH cb0
        go_wp2_with (at_builtin; refine wpList_append_lim .u64 rfl (.tmp 35) (.tmp 37) 30 (by rfl) w.heap.size 22 i0 Tryd.underlying30 hi0 hz0 hz1 q8 _ na (sm (lm f na) (lm g nb) 0) (by rfl) (ho.below (below_one _ _)) (some ⟨wr.heap.size, 0, none⟩) 1 1 (one (cy (lm f na) (lm g nb) 0 na)) (by rfl) (at_one _ _ _) q1 (HSZ.out _) ?_; intro v' w2 ho2 hb2)
        generalize cat (sm (lm f na) (lm g nb) 0) na (one (cy (lm f na) (lm g nb) 0 na)) = h at *
        have HB : Hid _ := (HB1.out _).trans hb2
        clear hb2 ho
        obtain ⟨p', c', rfl, k1, k2, k3⟩ := ho2.slice
        have HR : Hid _ := cut_own p' (na + 1) c' h w2 k1 k2 k3 (by omega)
        clear ho2
        go_wp2_with fail
        refine Calls.mono HR.out ?_
        rintro e w3 ⟨v3, rfl, hb3, ho3⟩
        have HO : Hid _ := ho3
        have HB3 : Hid _ := Below.up HB.out (Nat.le_refl _) hb3
        have ls := hb3.size
        clear ho3 hb3
        go_wp2
        go_ret
        exact ⟨_, rfl, Own.newP (Own.base HO.out (Below.size HB.out)) HB3.out (by have := tl_le h (na + 1); omega) (Rg.mono rH (tl_le _ _)) (nm_tl _ _) (by rw [val_tl]; exact VH.out)⟩
end Go.Proofs.YtgdmjngajjoliaaDoor
