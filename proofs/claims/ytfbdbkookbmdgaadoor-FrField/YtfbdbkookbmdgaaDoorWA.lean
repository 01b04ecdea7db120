/- What limb.trim, limbAt, order and Compare answer, for every call. -/
import Derived.Test.YtfbdbkookbmdgaaDoorMem
import Derived.Test.YtfbdbkookbmdgaaDoorChecked
import Derived.Deep.QuietTactic
import Derived.BigQuiet
namespace Go.Proofs.YtfbdbkookbmdgaaDoor
open Go.RowKit

def trimJ (p : Option Addr) (n cap : Nat) (f : Nat → Int) (w : World) : Act → World → Prop := fun a' w' => w' = w ∧ ∃ (m : Nat) (u4 u5 u6 u7 u8 u9 u10 u11 u12 u13 u14 u15 u16 u17 u18 u19 u20 : Value), a' = { tmps := #[.slice p n cap, undef, .slice none 0 0, .int .i64 m, u4, u5, u6, u7, u8, u9, u10, u11, u12, u13, u14, u15, u16, u17, u18, u19, u20], defers := [] } ∧ m ≤ n ∧ tl f m = tl f n
theorem trim_any (p : Option Addr) (n cap : Nat) (f : Nat → Int) (w : World) (hn : n ≤ cap) (hcap : cap ≤ 9223372036854775807) (hc : At w p n f) :
    Calls Tryd.prog 69 #[.slice p n cap] w fun e w' => e = .returned (.slice p (tl f n) cap) ∧ w' = w := by
  go_enter Tryd.func69, Tryd.ntmps69
  go_wp2
  refine wp_scope_goto 0 (trimJ p n cap f w) (fun a' _ => slot 3 a') rfl ?_ ?_
  · rintro a' w' ⟨rfl, m, u4, u5, u6, u7, u8, u9, u10, u11, u12, u13, u14, u15, u16, u17, u18, u19, u20, rfl, hm, ht⟩
    have HT := show Hid _ from ht
    clear ht
    cases m with
    | zero =>
      go_wp2
      simp only [Exit.jump]
      go_ret
      exact ⟨by rw [← HT.out]; rfl, rfl⟩
    | succ m =>
      obtain ⟨b, off, rfl, hcell⟩ := hc (by omega)
      have hm1 := hcell m (by omega)
      clear hcell hc
      go_wp2
      · rename_i h0
        go_step3
        refine ⟨rfl, ⟨rfl, m, _, _, _, _, _, _, _, _, _, _, _, _, _, _, _, _, _, rfl, by omega, ?_⟩, ?_⟩
        · rw [← HT.out, tl, if_pos (by simpa using h0)]
        · simp [slot, intOf]
      · rename_i h0
        simp only [Exit.jump]
        go_ret
        exact ⟨by rw [← HT.out, tl, if_neg (by simpa using h0)]; rfl, rfl⟩
  · intro hr
    go_wp2
    go_step3
    rename_i K hK
    exact hK _ _ (hr _ _ ⟨rfl, n, _, _, _, _, _, _, _, _, _, _, _, _, _, _, _, _, _, rfl, Nat.le_refl _, rfl⟩)

theorem limbAt_any (p : Option Addr) (n cap : Nat) (f : Nat → Int) (i : Nat) (w : World) (hn : n ≤ 17592186044416) (hi : i ≤ 17592186044416) (hc : At w p n f) :
    Calls Tryd.prog 71 #[.slice p n cap, .int .i64 i] w fun e w' => e = .returned (.int .u64 (lm f n i)) ∧ w' = w := by
  by_cases h : i < n
  · obtain ⟨b, off, rfl, hcell⟩ := hc (by omega)
    have hm1 := hcell i h
    have e : lm f n i = f i := lm_in h
    have E := show Hid _ from e
    clear hcell hc e
    go_enter Tryd.func71, Tryd.ntmps71
    go_wp2
    go_ret
    exact ⟨by rw [E.out]; rfl, rfl⟩
  · have e : lm f n i = 0 := lm_out (by omega)
    have E := show Hid _ from e
    clear hc e
    go_enter Tryd.func71, Tryd.ntmps71
    go_wp2
    go_ret
    exact ⟨by rw [E.out]; rfl, rfl⟩

theorem order_any (x y : Int) (w : World) :
    Calls Tryd.prog 78 #[.int .u64 x, .int .u64 y] w fun e w' => e = .returned (.int .i64 (ord x y)) ∧ w' = w := by
  rcases Int.lt_trichotomy x y with h | h | h
  · have E := show Hid _ from ord_lt h
    go_enter Tryd.func78, Tryd.ntmps78
    go_wp2
    go_ret
    exact ⟨by rw [E.out]; rfl, rfl⟩
  · have E := show Hid _ from ord_eq h
    have h1 : ¬ x < y := by omega
    have h2 : ¬ y < x := by omega
    clear h
    go_enter Tryd.func78, Tryd.ntmps78
    go_wp2
    go_ret
    exact ⟨by rw [E.out]; rfl, rfl⟩
  · have E := show Hid _ from ord_gt h
    have h1 : ¬ x < y := by omega
    go_enter Tryd.func78, Tryd.ntmps78
    go_wp2
    go_ret
    exact ⟨by rw [E.out]; rfl, rfl⟩

def cmpJ (pa pb : Option Addr) (n ca cb : Nat) (f g : Nat → Int) (w : World) : Act → World → Prop := fun a' w' => (∃ q, w' = w.drewN q) ∧ ∃ (m : Nat) (u6 u7 u8 u9 u10 u11 u12 u13 u14 u15 u16 u17 u18 u19 u20 u21 u22 u23 u24 u25 u26 u27 u28 u29 u30 u31 u32 u33 u34 u35 u36 u37 u38 u39 u40 u41 u42 u43 u44 u45 : Value), a' = { tmps := #[.slice pa n ca, .slice pb n cb, undef, undef, .int .i64 0, .int .i64 m, u6, u7, u8, u9, u10, u11, u12, u13, u14, u15, u16, u17, u18, u19, u20, u21, u22, u23, u24, u25, u26, u27, u28, u29, u30, u31, u32, u33, u34, u35, u36, u37, u38, u39, u40, u41, u42, u43, u44, u45], defers := [] } ∧ m ≤ n ∧ (∀ i, m ≤ i → i < n → f i = g i)

theorem compare_any (pa pb : Option Addr) (na nb ca cb : Nat) (f g : Nat → Int) (w : World) (hna : na ≤ ca) (hca : ca ≤ 9223372036854775807) (hnb : nb ≤ cb) (hcb : cb ≤ 9223372036854775807) (ha : At w pa na f) (hb : At w pb nb g) (rf : Rg f na) (rg : Rg g nb) :
    Calls Tryd.prog 76 #[.slice pa na ca, .slice pb nb cb] w fun e w' => e = .returned (.int .i64 (ord (val f na) (val g nb))) ∧ ∃ q, w' = w.drewN q := by
  have lf := tl_le f na
  have lg := tl_le g nb
  rw [← val_tl f na, ← val_tl g nb]
  have ha' := ha.mono lf
  have hb' := hb.mono lg
  have rf' := rf.mono lf
  have rg' := rg.mono lg
  have nf := nm_tl f na
  have ng := nm_tl g nb
  have E0 : tl f na ≠ tl g nb → Hid (ord (val f (tl f na)) (val g (tl g nb)) = ord ((tl f na : Nat) : Int) ((tl g nb : Nat) : Int)) := fun h => ord_len rf' rg' nf ng h
  have T1 := trim_any pa na ca f w hna hca ha
  have T2 := trim_any pb nb cb g w hnb hcb hb
  generalize tl f na = m at *
  generalize tl g nb = k at *
  have H1 := show Hid _ from T1
  have H2 := show Hid _ from T2
  clear T1 T2 ha hb rf rg
  by_cases h : m = k
  · subst h
    clear E0
    go_enter Tryd.func76, Tryd.ntmps76
    go_wp2_with fail
    refine wp_scope_goto 0 (cmpJ pa pb m ca cb f g w) (fun a' _ => slot 5 a') rfl ?_ ?_
    · rintro a' W ⟨⟨q, hq⟩, i, u6, u7, u8, u9, u10, u11, u12, u13, u14, u15, u16, u17, u18, u19, u20, u21, u22, u23, u24, u25, u26, u27, u28, u29, u30, u31, u32, u33, u34, u35, u36, u37, u38, u39, u40, u41, u42, u43, u44, u45, rfl, hm, ht⟩
      cases i with
      | zero =>
        have E := show Hid _ from ord_eq (val_congr (f := f) (g := g) (n := m) (fun i hi => ht i (by omega) hi))
        have HQ := show Hid _ from hq
        clear ht H1 H2 hq
        go_wp2
        simp only [Exit.jump]
        go_ret
        exact ⟨by rw [E.out]; rfl, _, HQ.out⟩
      | succ i =>
        obtain ⟨b, off, rfl, hcell⟩ := ha' (by omega)
        have hc1 : W.cell? ⟨b, off + i, none⟩ = some (.int .u64 (f i)) := by rw [hq]; exact hcell i (by omega)
        obtain ⟨b2, off2, rfl, hcell2⟩ := hb' (by omega)
        have hc2 : W.cell? ⟨b2, off2 + i, none⟩ = some (.int .u64 (g i)) := by rw [hq]; exact hcell2 i (by omega)
        have HT := show Hid _ from ht
        have HQ := show Hid _ from hq
        clear hq hcell hcell2 ha' hb' H1 H2 ht
        by_cases he : f i = g i
        · have he' : (f i == g i) = true := by simpa using he
          have HE := show Hid _ from he
          clear he
          go_wp2
          go_quiet (fail)
          go_wp2
          go_step3
          refine ⟨rfl, ⟨⟨q + nq, by rw [HQ.out, World.drewN_drewN]⟩, i, _, _, _, _, _, _, _, _, _, _, _, _, _, _, _, _, _, _, _, _, _, _, _, _, _, _, _, _, _, _, _, _, _, _, _, _, _, _, _, _, rfl, by omega, ?_⟩, ?_⟩
          · intro j h1 h2
            by_cases e : j = i
            · subst e; exact HE.out
            · exact HT.out j (by omega) h2
          · simp [slot, intOf]
        · have he' : (f i == g i) = false := by simpa using he
          have E := show Hid _ from ord_at rf' rg' (k := i) (by omega) (fun j h1 h2 => HT.out j (by omega) h2) he
          clear he
          go_wp2
          go_quiet (fail)
          go_wp2
          have hc3 : (W.drewN nq).cell? ⟨b, off + i, none⟩ = some (.int .u64 (f i)) := hc1
          have hc4 : (W.drewN nq).cell? ⟨b2, off2 + i, none⟩ = some (.int .u64 (g i)) := hc2
          clear hc1 hc2
          generalize hV : W.drewN nq = V at *
          have HV := show Hid _ from hV
          clear hV
          go_quiet ((go_at_call 78; exact Calls.quiet_of_same (order_any _ _ _)))
          go_wp2
          simp only [Exit.jump]
          go_ret
          exact ⟨by rw [E.out]; rfl, _, by rw [← HV.out, HQ.out, World.drewN_drewN, World.drewN_drewN]⟩
    · intro hr
      go_wp2_with fail
      refine Calls.mono H1.out ?_
      rintro e w' ⟨rfl, rfl⟩
      go_wp2_with fail
      refine Calls.mono H2.out ?_
      rintro e w' ⟨rfl, rfl⟩
      go_wp2
      go_step3
      rename_i K hK
      exact hK _ _ (hr _ _ ⟨⟨0, rfl⟩, m, _, _, _, _, _, _, _, _, _, _, _, _, _, _, _, _, _, _, _, _, _, _, _, _, _, _, _, _, _, _, _, _, _, _, _, _, _, _, _, _, rfl, Nat.le_refl _, fun i h1 h2 => absurd h1 (by omega)⟩)
  · have E := E0 h
    clear E0
    have hd : ((m : Int) == (k : Int)) = false := by simp; omega
    go_enter Tryd.func76, Tryd.ntmps76
    go_wp2_with fail
    go_step3
    go_wp2_with fail
    refine Calls.mono H1.out ?_
    rintro e w' ⟨rfl, rfl⟩
    go_wp2_with fail
    refine Calls.mono H2.out ?_
    rintro e w' ⟨rfl, rfl⟩
    go_wp2_with fail
    refine (order_any _ _ _).mono ?_
    rintro e w' ⟨rfl, rfl⟩
    go_wp2
    rw [Exit.noGoto_ret]
    go_ret
    exact ⟨by rw [E.out]; rfl, 0, rfl⟩
end Go.Proofs.YtfbdbkookbmdgaaDoor
