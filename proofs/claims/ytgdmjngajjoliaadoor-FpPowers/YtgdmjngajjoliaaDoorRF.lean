/- What the document's SqrtP answers. -/
import Derived.Test.YtgdmjngajjoliaaDoorSA
import Derived.Test.YtgdmjngajjoliaaDoorBX
import Derived.Test.YtgdmjngajjoliaaDoorZT
namespace Go.Proofs.YtgdmjngajjoliaaDoor.fpn
open Go.RowKit
attribute [local go_sem ↓] Go.wp_at_zero Go.wp_at_succ
set_option linter.unusedVariables false
set_option linter.unusedSimpArgs false

theorem SE_val : (RI + 1) / 2 / 2 = (SE : Int) := by decide +kernel
theorem nm_pos {f : Nat → Int} {n : Nat} (h : val f n = val rL 6 + val (one 1) 1) : 0 < n := by
  rcases Nat.eq_zero_or_pos n with rfl | h0
  · rw [rL_val, val_one] at h
    simp [val] at h
    have : 0 < RI := RI_pos
    omega
  · exact h0
theorem at6' {w : World} {b : Nat} {f : Nat → Int} (h : Mut w b 0 6 f) : w.cell? ⟨b, 0, none⟩ = some (.int .u64 (f 0)) ∧ w.cell? ⟨b, 1, none⟩ = some (.int .u64 (f 1)) ∧ w.cell? ⟨b, 2, none⟩ = some (.int .u64 (f 2)) ∧ w.cell? ⟨b, 3, none⟩ = some (.int .u64 (f 3)) ∧ w.cell? ⟨b, 4, none⟩ = some (.int .u64 (f 4)) ∧ w.cell? ⟨b, 5, none⟩ = some (.int .u64 (f 5)) := MutK.cells6 h
/-- The literal's slice, and the box, in the worlds where they are laid: y, then o, behind them x. -/
theorem lit1 {t : TypeId} {y x : World} (h : Below (y.alloc (.cells #[.int .u64 1] t)).heap.size (y.alloc (.cells #[.int .u64 1] t)) x) : Below y.heap.size y x ∧ At x (some ⟨y.heap.size, 0, none⟩) 1 (one 1) :=
  ⟨Below.up (below_one _ _) (Nat.le_refl _) h, AtK.below (at_one _ _ _) h⟩
theorem box1 {s : TypeId} {y x : World} (h : Below (y.alloc (.cells #[.int .u64 0, .int .u64 0, .int .u64 0, .int .u64 0, .int .u64 0, .int .u64 0] s)).heap.size (y.alloc (.cells #[.int .u64 0, .int .u64 0, .int .u64 0, .int .u64 0, .int .u64 0, .int .u64 0] s)) x) : Below y.heap.size y x ∧ Mut x y.heap.size 0 6 Z :=
  ⟨Below.up (below_one _ _) (Nat.le_refl _) h, MutK.below (mut_noughts _ _) h (by simp)⟩
theorem litbox {t s : TypeId} {y x : World} (h : Below ((y.alloc (.cells #[.int .u64 1] t)).alloc (.cells #[.int .u64 0, .int .u64 0, .int .u64 0, .int .u64 0, .int .u64 0, .int .u64 0] s)).heap.size ((y.alloc (.cells #[.int .u64 1] t)).alloc (.cells #[.int .u64 0, .int .u64 0, .int .u64 0, .int .u64 0, .int .u64 0, .int .u64 0] s)) x) : Below y.heap.size y x ∧ At x (some ⟨y.heap.size, 0, none⟩) 1 (one 1) ∧ Mut x (y.heap.size + 1) 0 6 Z := by
  have h1 := box1 h
  have h2 := lit1 h1.1
  rw [World.size_alloc] at h1
  exact ⟨h2.1, h2.2, h1.2⟩
theorem boxlit {t s : TypeId} {y x : World} (h : Below ((y.alloc (.cells #[.int .u64 0, .int .u64 0, .int .u64 0, .int .u64 0, .int .u64 0, .int .u64 0] s)).alloc (.cells #[.int .u64 1] t)).heap.size ((y.alloc (.cells #[.int .u64 0, .int .u64 0, .int .u64 0, .int .u64 0, .int .u64 0, .int .u64 0] s)).alloc (.cells #[.int .u64 1] t)) x) : Below y.heap.size y x ∧ At x (some ⟨y.heap.size + 1, 0, none⟩) 1 (one 1) ∧ Mut x y.heap.size 0 6 Z := by
  have h1 := lit1 h
  have h2 := box1 h1.1
  rw [World.size_alloc] at h1
  exact ⟨h2.1, h1.2, h2.2⟩
theorem at_one2 {t s : TypeId} (y : World) : At ((y.alloc (.cells #[.int .u64 0, .int .u64 0, .int .u64 0, .int .u64 0, .int .u64 0, .int .u64 0] s)).alloc (.cells #[.int .u64 1] t)) (some ⟨y.heap.size + 1, 0, none⟩) 1 (one 1) := by
  have := at_one (y.alloc (.cells #[.int .u64 0, .int .u64 0, .int .u64 0, .int .u64 0, .int .u64 0, .int .u64 0] s)) 1 t
  rw [World.size_alloc] at this
  exact this
theorem refP_new (w : World) : Calls Tryd.prog 26 #[] w fun e w' => ∃ k : Nat, e = .returned (.slice (some ⟨k, 0, none⟩) 6 6) ∧ Below w.heap.size w w' ∧ At w' (some ⟨k, 0, none⟩) 6 rL := by
  refine Calls.mono (refR_any w) ?_
  rintro e w' ⟨rfl, b, -, m⟩
  exact ⟨_, rfl, b, m.at⟩
/-- What the first step leaves. -/
def sqPost (f : Nat → Int) (w W : World) : Exit → Act → World → Prop := fun e a' V => e = .normal ∧ ∃ (d : Nat) (h : Nat → Int) (u5 u6 u7 u8 u9 u10 u11 u12 u13 u14 u15 u16 u17 u18 u19 u20 u21 u22 : Value), a' = { tmps := #[.agg #[.int .u64 (f 0), .int .u64 (f 1), .int .u64 (f 2), .int .u64 (f 3), .int .u64 (f 4), .int .u64 (f 5)], .pointer (some ⟨w.heap.size, 0, none⟩), .pointer (some ⟨w.heap.size + 1, 0, none⟩), .bool false, .pointer (some ⟨d, 0, none⟩), u5, u6, u7, u8, u9, u10, u11, u12, u13, u14, u15, u16, u17, u18, u19, u20, u21, u22], defers := [] } ∧ Below W.heap.size W V ∧ Mut V d 0 6 h ∧ Rg h 6 ∧ val h 6 = sq (val f 6) ∧ W.heap.size ≤ d

/-- An operation is taken first, its slot told. -/
theorem takeW {P : Program} {ops : Array Oper} {Q : Exit → Act → World → Prop} {md : Region.Mode} {S : World → Prop} {i : Nat} {oi : Oper} {v : Value} {fuel : Nat} {listed : Array Bool} {a : Act} {w : World} (d : Tmp) (hi : ops[i]? = some oi)
    (hs : Region.noSelect ops = true) (hf : Region.free md ops listed i = true) (hr : (Region.ready md ops listed).contains i = true)
    (hQ : ∀ c a w, Q (.panic c) (a.put oi.dst v) w → Q (.panic c) a w) (hy : YieldsIf P ops S oi v a) (hS : S w) (hd : oi.dst = some d)
    (h : wpAnyH P md ops Q S fuel (listed.setIfInBounds i true) (a.put (some d) v) w) : wpAnyH P md ops Q S (fuel + 1) listed a w :=
  wpAnyH_take hi hs hf hr hQ hy hS (by rw [hd]; exact h)

set_option maxHeartbeats 16000000 in
theorem sqrtP_at (f : Nat → Int) (w : World) (rf : Rg f 6) (lf : val f 6 < RI) (b : Bool) (r : Int) (hyp : Hid ((sq (val f 6) * sq (val f 6) % RI = val f 6 ∧ b = true ∧ r = lesser (sq (val f 6))) ∨ (sq (val f 6) * sq (val f 6) % RI ≠ val f 6 ∧ b = false ∧ r = 0))) : Calls Tryd.prog 30 #[.agg #[.int .u64 (f 0), .int .u64 (f 1), .int .u64 (f 2), .int .u64 (f 3), .int .u64 (f 4), .int .u64 (f 5)]] w fun e w' => ∃ h : Nat → Int, e = .returned (.tuple #[.agg #[.int .u64 (h 0), .int .u64 (h 1), .int .u64 (h 2), .int .u64 (h 3), .int .u64 (h 4), .int .u64 (h 5)], .bool b]) ∧ Rg h 6 ∧ val h 6 = r ∧ Below w.heap.size w w' := by
  obtain ⟨B1, z1, hF, hR⟩ := pair_all w f 24
  unfold pair at B1 z1 hF hR
  have RF : Hid _ := rf
  have LF : Hid _ := lf
  clear rf lf
  go_enter Tryd.func30, Tryd.ntmps30
  go_wp2_with fail
  generalize (w.alloc (.cells #[.int .u64 (f 0), .int .u64 (f 1), .int .u64 (f 2), .int .u64 (f 3), .int .u64 (f 4), .int .u64 (f 5)] 24)).alloc (.cells #[.int .u64 0, .int .u64 0, .int .u64 0, .int .u64 0, .int .u64 0, .int .u64 0] 24) = W at *
  refine Code.wp_mono (Q := sqPost f w W) ?_ ?_
  · rintro e a' V ⟨rfl, d, h, u5, u6, u7, u8, u9, u10, u11, u12, u13, u14, u15, u16, u17, u18, u19, u20, u21, u22, rfl, bV, mV, rh, vh, ld⟩
    have dne1 : w.heap.size + 1 ≠ d := by rw [z1] at ld; omega
    have dne2 : d ≠ w.heap.size + 1 := fun e => dne1 e.symm
    have DLE : Hid (w.heap.size ≤ d) := by show _ ≤ _; rw [z1] at ld; omega
    have DNE : Hid _ := dne1
    clear ld
    have hFV := MutK.below hF bV (by rw [z1]; omega)
    have hRV := MutK.below hR bV (by rw [z1]; omega)
    have BV := Below.up B1 (Nat.le_refl _) bV
    have HS : Hid (∀ x, Below V.heap.size V x → (x.cell? ⟨d, 0, none⟩ = some (.int .u64 (h 0)) ∧ x.cell? ⟨d, 1, none⟩ = some (.int .u64 (h 1)) ∧ x.cell? ⟨d, 2, none⟩ = some (.int .u64 (h 2)) ∧ x.cell? ⟨d, 3, none⟩ = some (.int .u64 (h 3)) ∧ x.cell? ⟨d, 4, none⟩ = some (.int .u64 (h 4)) ∧ x.cell? ⟨d, 5, none⟩ = some (.int .u64 (h 5))) ∧ (x.cell? ⟨w.heap.size, 0, none⟩ = some (.int .u64 (f 0)) ∧ x.cell? ⟨w.heap.size, 1, none⟩ = some (.int .u64 (f 1)) ∧ x.cell? ⟨w.heap.size, 2, none⟩ = some (.int .u64 (f 2)) ∧ x.cell? ⟨w.heap.size, 3, none⟩ = some (.int .u64 (f 3)) ∧ x.cell? ⟨w.heap.size, 4, none⟩ = some (.int .u64 (f 4)) ∧ x.cell? ⟨w.heap.size, 5, none⟩ = some (.int .u64 (f 5)))) := fun x hx => ⟨at6 (mV.at.below hx), at6 (hFV.at.below hx)⟩
    have HR : Hid _ := hRV
    have MV : Hid _ := mV
    have B2 : Hid _ := BV
    have BW : Hid (Below V.heap.size V V.drew) := (Below.refl _ _).drew
    have RH : Hid _ := rh
    have VH : Hid _ := vh
    have LH : Hid (val h 6 < RI) := by show _ < _; rw [vh]; exact modR_lt _
    clear hF hR B1 z1 bV mV rh vh hFV hRV BV
    rcases hyp.out with ⟨hn, rfl, rfl⟩ | ⟨hn, rfl, rfl⟩
    · have HN : Hid _ := hn
      have KG : Hid _ := fun w => greatP_any h w RH.out
      rw [VH.out] at KG
      clear hn hyp
      by_cases hq : RI / 2 < sq (val f 6)
      · rw [decide_eq_true hq] at KG
        have HQ : Hid (lesser (sq (val f 6)) = (0 - sq (val f 6)) % RI) := if_pos hq
        clear hq
        go_wp2_with fail
        go_region_held3 (fun x => (x.cell? ⟨d, 0, none⟩ = some (.int .u64 (h 0)) ∧ x.cell? ⟨d, 1, none⟩ = some (.int .u64 (h 1)) ∧ x.cell? ⟨d, 2, none⟩ = some (.int .u64 (h 2)) ∧ x.cell? ⟨d, 3, none⟩ = some (.int .u64 (h 3)) ∧ x.cell? ⟨d, 4, none⟩ = some (.int .u64 (h 4)) ∧ x.cell? ⟨d, 5, none⟩ = some (.int .u64 (h 5))) ∧ (x.cell? ⟨w.heap.size, 0, none⟩ = some (.int .u64 (f 0)) ∧ x.cell? ⟨w.heap.size, 1, none⟩ = some (.int .u64 (f 1)) ∧ x.cell? ⟨w.heap.size, 2, none⟩ = some (.int .u64 (f 2)) ∧ x.cell? ⟨w.heap.size, 3, none⟩ = some (.int .u64 (f 3)) ∧ x.cell? ⟨w.heap.size, 4, none⟩ = some (.int .u64 (f 4)) ∧ x.cell? ⟨w.heap.size, 5, none⟩ = some (.int .u64 (f 5))))
          (exact HS.out _ BW.out)
          ((go_at_call 53; refine Calls.mono (mulR_agg h h _ RH.out RH.out LH.out) ?_; rintro e x3 ⟨h3, rfl, r3, v3, b3⟩; have BX := Below.up BW.out (Nat.le_refl _) b3; clear BW; have BW : Hid _ := BX; clear BX; have E3 : ∀ w, (Op.equalIn 10000 24 (.agg #[.int .u64 (h3 0), .int .u64 (h3 1), .int .u64 (h3 2), .int .u64 (h3 3), .int .u64 (h3 4), .int .u64 (h3 5)]) (.agg #[.int .u64 (f 0), .int .u64 (f 1), .int .u64 (f 2), .int .u64 (f 3), .int .u64 (f 4), .int .u64 (f 5)])).run Tryd.prog w = .ok true w := (fun w => by have e := eqFr_run h3 f r3 RF.out w; rw [v3, VH.out, decide_eq_true HN.out] at e; exact e); clear b3 r3 v3))
        obtain ⟨⟨t0, t1, t2, t3, t4, t5⟩, s0, s1, s2, s3, s4, s5⟩ := HS.out _ BW.out
        clear E3
        go_wp2_with fail
        refine Calls.mono (KG.out _) ?_
        rintro e x4 ⟨rfl, b4⟩
        have BX4 := Below.up BW.out (Nat.le_refl _) b4
        clear BW b4 t0 t1 t2 t3 t4 t5 s0 s1 s2 s3 s4 s5
        obtain ⟨⟨t0, t1, t2, t3, t4, t5⟩, s0, s1, s2, s3, s4, s5⟩ := HS.out _ BX4
        have m4 := MutK.below MV.out BX4 (cell_lt (MutK.cells6 MV.out).1)
        clear m4
        go_wp2_with fail
        have KN := negR_any h x4 RH.out LH.out
        unfold frv at KN
        refine Calls.mono KN ?_
        clear KN
        rintro e x5 ⟨v5, rfl, ⟨h5, rfl, r5, v5⟩, b5⟩
        rw [VH.out] at v5
        have BX5 := Below.up BX4 (Nat.le_refl _) b5
        have m5 := MutK.below MV.out BX5 (cell_lt (MutK.cells6 MV.out).1)
        have hR5 := MutK.below HR.out BX5 (cell_lt (MutK.cells6 HR.out).1)
        obtain ⟨V5, hV5⟩ : ∃ V5, (((((x5.setCell ⟨d, 0, none⟩ (.int .u64 (h5 0))).setCell ⟨d, 1, none⟩ (.int .u64 (h5 1))).setCell ⟨d, 2, none⟩ (.int .u64 (h5 2))).setCell ⟨d, 3, none⟩ (.int .u64 (h5 3))).setCell ⟨d, 4, none⟩ (.int .u64 (h5 4))).setCell ⟨d, 5, none⟩ (.int .u64 (h5 5)) = V5 := ⟨_, rfl⟩
        have mx : Mut V5 d 0 6 h5 := hV5 ▸ mut_set6 m5 h5
        have mr : Mut V5 (w.heap.size + 1) 0 6 Z := hV5 ▸ mut_not6 hR5 DNE.out _ _ _ _ _ _
        have HB : Hid (Below w.heap.size w V5) := hV5 ▸ below_set6 (Below.up B2.out (Nat.le_refl _) BX5) DLE.out _ _ _ _ _ _
        obtain ⟨p0, p1, p2, p3, p4, p5⟩ := MutK.cells6 m5
        obtain ⟨o0, o1, o2, o3, o4, o5⟩ := MutK.free6 m5
        obtain ⟨l0, l1, l2, l3, l4, l5⟩ := MutK.cells6 mx
        obtain ⟨y0, y1, y2, y3, y4, y5⟩ := MutK.cells6 mr
        obtain ⟨q0, q1, q2, q3, q4, q5⟩ := MutK.free6 mr
        have V5' : Hid _ := v5
        have R5 : Hid _ := r5
        clear t0 t1 t2 t3 t4 t5 s0 s1 s2 s3 s4 s5 m5 hR5 b5 BX4 BX5 v5 r5 mx mr dne1 dne2
        go_wp2
        refine bodyPost_ret (v := .tuple #[.agg #[.int .u64 (h5 0), .int .u64 (h5 1), .int .u64 (h5 2), .int .u64 (h5 3), .int .u64 (h5 4), .int .u64 (h5 5)], .bool true]) (by simp [results, Tryd.results30, go_sem, y0, y1, y2, y3, y4, y5]) rfl ⟨h5, rfl, R5.out, by rw [HQ.out]; exact V5'.out, ?_⟩
        exact below_set6 HB.out (by omega) _ _ _ _ _ _
      · rw [decide_eq_false hq] at KG
        have HQ : Hid (lesser (sq (val f 6)) = sq (val f 6)) := if_neg hq
        clear hq
        go_wp2_with fail
        go_region_held3 (fun x => (x.cell? ⟨d, 0, none⟩ = some (.int .u64 (h 0)) ∧ x.cell? ⟨d, 1, none⟩ = some (.int .u64 (h 1)) ∧ x.cell? ⟨d, 2, none⟩ = some (.int .u64 (h 2)) ∧ x.cell? ⟨d, 3, none⟩ = some (.int .u64 (h 3)) ∧ x.cell? ⟨d, 4, none⟩ = some (.int .u64 (h 4)) ∧ x.cell? ⟨d, 5, none⟩ = some (.int .u64 (h 5))) ∧ (x.cell? ⟨w.heap.size, 0, none⟩ = some (.int .u64 (f 0)) ∧ x.cell? ⟨w.heap.size, 1, none⟩ = some (.int .u64 (f 1)) ∧ x.cell? ⟨w.heap.size, 2, none⟩ = some (.int .u64 (f 2)) ∧ x.cell? ⟨w.heap.size, 3, none⟩ = some (.int .u64 (f 3)) ∧ x.cell? ⟨w.heap.size, 4, none⟩ = some (.int .u64 (f 4)) ∧ x.cell? ⟨w.heap.size, 5, none⟩ = some (.int .u64 (f 5))))
          (exact HS.out _ BW.out)
          ((go_at_call 53; refine Calls.mono (mulR_agg h h _ RH.out RH.out LH.out) ?_; rintro e x3 ⟨h3, rfl, r3, v3, b3⟩; have BX := Below.up BW.out (Nat.le_refl _) b3; clear BW; have BW : Hid _ := BX; clear BX; have E3 : ∀ w, (Op.equalIn 10000 24 (.agg #[.int .u64 (h3 0), .int .u64 (h3 1), .int .u64 (h3 2), .int .u64 (h3 3), .int .u64 (h3 4), .int .u64 (h3 5)]) (.agg #[.int .u64 (f 0), .int .u64 (f 1), .int .u64 (f 2), .int .u64 (f 3), .int .u64 (f 4), .int .u64 (f 5)])).run Tryd.prog w = .ok true w := (fun w => by have e := eqFr_run h3 f r3 RF.out w; rw [v3, VH.out, decide_eq_true HN.out] at e; exact e); clear b3 r3 v3))
        obtain ⟨⟨t0, t1, t2, t3, t4, t5⟩, s0, s1, s2, s3, s4, s5⟩ := HS.out _ BW.out
        clear E3
        go_wp2_with fail
        refine Calls.mono (KG.out _) ?_
        rintro e x4 ⟨rfl, b4⟩
        have BX4 := Below.up BW.out (Nat.le_refl _) b4
        clear BW b4 t0 t1 t2 t3 t4 t5 s0 s1 s2 s3 s4 s5
        obtain ⟨⟨t0, t1, t2, t3, t4, t5⟩, s0, s1, s2, s3, s4, s5⟩ := HS.out _ BX4
        obtain ⟨y0, y1, y2, y3, y4, y5⟩ := MutK.cells6 (MutK.below HR.out BX4 (cell_lt (MutK.cells6 HR.out).1))
        obtain ⟨q0, q1, q2, q3, q4, q5⟩ := MutK.free6 (MutK.below HR.out BX4 (cell_lt (MutK.cells6 HR.out).1))
        have HB : Hid _ := Below.up B2.out (Nat.le_refl _) BX4
        clear BX4 s0 s1 s2 s3 s4 s5
        go_wp2
        refine bodyPost_ret (v := .tuple #[.agg #[.int .u64 (h 0), .int .u64 (h 1), .int .u64 (h 2), .int .u64 (h 3), .int .u64 (h 4), .int .u64 (h 5)], .bool true]) (by simp [results, Tryd.results30, go_sem, y0, y1, y2, y3, y4, y5]) rfl ⟨h, rfl, RH.out, by rw [HQ.out]; exact VH.out, ?_⟩
        exact below_set6 HB.out (by omega) _ _ _ _ _ _
    · have HN : Hid _ := hn
      clear hn hyp
      go_wp2_with fail
      go_region_held3 (fun x => (x.cell? ⟨d, 0, none⟩ = some (.int .u64 (h 0)) ∧ x.cell? ⟨d, 1, none⟩ = some (.int .u64 (h 1)) ∧ x.cell? ⟨d, 2, none⟩ = some (.int .u64 (h 2)) ∧ x.cell? ⟨d, 3, none⟩ = some (.int .u64 (h 3)) ∧ x.cell? ⟨d, 4, none⟩ = some (.int .u64 (h 4)) ∧ x.cell? ⟨d, 5, none⟩ = some (.int .u64 (h 5))) ∧ (x.cell? ⟨w.heap.size, 0, none⟩ = some (.int .u64 (f 0)) ∧ x.cell? ⟨w.heap.size, 1, none⟩ = some (.int .u64 (f 1)) ∧ x.cell? ⟨w.heap.size, 2, none⟩ = some (.int .u64 (f 2)) ∧ x.cell? ⟨w.heap.size, 3, none⟩ = some (.int .u64 (f 3)) ∧ x.cell? ⟨w.heap.size, 4, none⟩ = some (.int .u64 (f 4)) ∧ x.cell? ⟨w.heap.size, 5, none⟩ = some (.int .u64 (f 5))))
          (exact HS.out _ BW.out)
          ((go_at_call 53; refine Calls.mono (mulR_agg h h _ RH.out RH.out LH.out) ?_; rintro e x3 ⟨h3, rfl, r3, v3, b3⟩; have BX := Below.up BW.out (Nat.le_refl _) b3; clear BW; have BW : Hid _ := BX; clear BX; have E3 : ∀ w, (Op.equalIn 10000 24 (.agg #[.int .u64 (h3 0), .int .u64 (h3 1), .int .u64 (h3 2), .int .u64 (h3 3), .int .u64 (h3 4), .int .u64 (h3 5)]) (.agg #[.int .u64 (f 0), .int .u64 (f 1), .int .u64 (f 2), .int .u64 (f 3), .int .u64 (f 4), .int .u64 (f 5)])).run Tryd.prog w = .ok false w := (fun w => by have e := eqFr_run h3 f r3 RF.out w; rw [v3, VH.out, decide_eq_false HN.out] at e; exact e); clear b3 r3 v3))
      obtain ⟨y0, y1, y2, y3, y4, y5⟩ := MutK.cells6 (MutK.below HR.out BW.out (cell_lt (MutK.cells6 HR.out).1))
      obtain ⟨q0, q1, q2, q3, q4, q5⟩ := MutK.free6 (MutK.below HR.out BW.out (cell_lt (MutK.cells6 HR.out).1))
      have HB : Hid _ := Below.up B2.out (Nat.le_refl _) BW.out
      clear BW
      go_wp2
      refine bodyPost_ret (v := .tuple #[.agg #[.int .u64 0, .int .u64 0, .int .u64 0, .int .u64 0, .int .u64 0, .int .u64 0], .bool false]) (by simp [results, Tryd.results30, go_sem, y0, y1, y2, y3, y4, y5]) rfl ⟨Z, rfl, Z_rg 6, val_Z 6, ?_⟩
      exact below_set6 HB.out (by omega) _ _ _ _ _ _
  · have HS : Hid (∀ x, Below W.heap.size W x → (x.cell? ⟨w.heap.size, 0, none⟩ = some (.int .u64 (f 0)) ∧ x.cell? ⟨w.heap.size, 1, none⟩ = some (.int .u64 (f 1)) ∧ x.cell? ⟨w.heap.size, 2, none⟩ = some (.int .u64 (f 2)) ∧ x.cell? ⟨w.heap.size, 3, none⟩ = some (.int .u64 (f 3)) ∧ x.cell? ⟨w.heap.size, 4, none⟩ = some (.int .u64 (f 4)) ∧ x.cell? ⟨w.heap.size, 5, none⟩ = some (.int .u64 (f 5)))) := fun x hx => at6 (hF.at.below hx)
    have BW : Hid (Below W.heap.size W W) := Below.refl _ _
    have LB : Hid (W.heap.size ≤ W.heap.size) := Nat.le_refl _
    have KP : Hid _ := powR_any f
    unfold frv at KP
    clear B1 hF hR z1
    refine wp_region_held_drew (S := (fun x => x.cell? ⟨w.heap.size, 0, none⟩ = some (.int .u64 (f 0)) ∧ x.cell? ⟨w.heap.size, 1, none⟩ = some (.int .u64 (f 1)) ∧ x.cell? ⟨w.heap.size, 2, none⟩ = some (.int .u64 (f 2)) ∧ x.cell? ⟨w.heap.size, 3, none⟩ = some (.int .u64 (f 3)) ∧ x.cell? ⟨w.heap.size, 4, none⟩ = some (.int .u64 (f 4)) ∧ x.cell? ⟨w.heap.size, 5, none⟩ = some (.int .u64 (f 5)))) (by kernel_rfl) (HS.out _ (Below.refl _ _).drew) (fun hHeld => ?_)
    refine takeW (i := 0) (v := .agg #[.int .u64 (f 0), .int .u64 (f 1), .int .u64 (f 2), .int .u64 (f 3), .int .u64 (f 4), .int .u64 (f 5)]) 5 rfl (by kernel_rfl) (by kernel_rfl) (by kernel_rfl) (by intro _ _ _ h; exact nomatch h.1) (Or.inl ⟨by rfl, fun wS hSw => by dsimp only at hSw; go_simp⟩) hHeld rfl ?_
    try simp only [Act.put, List.setIfInBounds_toArray, List.set_cons_zero, List.set_cons_succ]
    refine wpAnyH_ready (rs := [1, 2, 7]) (by kernel_rfl) (by simp) ?_
    refine AllReadyH.cons rfl (fun K hK => ?_) ?_
    · go_simp
      go_at_call 26; refine Calls.mono (refP_new _) ?_; rintro e w2 ⟨k2, rfl, b2, a2⟩; have bb' := (below_drew b2); have AP : Hid (At w2 (some ⟨k2, 0, none⟩) 6 rL) := a2; have BX : Below W.heap.size W w2 := Below.up BW.out (Nat.le_refl _) bb'; clear BW; have BW : Hid (Below W.heap.size W w2) := BX; clear LB; have LB : Hid (W.heap.size ≤ w2.heap.size) := BX.size; clear BX bb'; clear b2 a2
      refine hK.out _ _ (HS.out _ (BW.out)) (fun hHeld2 => ?_)
      clear hK K hHeld
      have hHeld := hHeld2
      clear hHeld2
      try simp only [Act.put, List.setIfInBounds_toArray, List.set_cons_zero, List.set_cons_succ]
      refine wpAnyH_ready (rs := [2, 7]) (by kernel_rfl) (by simp) ?_
      refine AllReadyH.cons rfl (fun K hK => ?_) ?_
      · go_simp
        refine hK.out _ _ (HS.out _ (Below.up BW.out (Nat.le_refl _) (below_one _ _))) (fun hHeld2 => ?_)
        clear hK K hHeld
        have hHeld := hHeld2
        clear hHeld2
        try simp only [Act.put, List.setIfInBounds_toArray, List.set_cons_zero, List.set_cons_succ]
        refine wpAnyH_ready (rs := [3, 7]) (by kernel_rfl) (by simp) ?_
        refine AllReadyH.cons rfl (fun K hK => ?_) ?_
        · go_simp
          go_at_call 38; refine Calls.mono (refSum_any _ _ 6 1 6 1 rL (one 1) _ (by omega) (by omega) (by omega) (by omega) (AtK.below AP.out (below_one _ _)) (at_one _ _ _) rL_rg (one_rg ⟨by decide, by rw [B64_eq]; decide⟩ 1) (by omega) (by omega)) ?_; rintro e w3 ⟨v3, rfl, b3, p3, n3, c3, h3, rfl, q1, q2, q3, a3, r3, nm3, v3⟩; have bb' := (lit1 b3).1; have A3 : Hid (At w3 p3 n3 h3) := a3; have R3 : Hid _ := r3; have V3 : Hid _ := v3; have P3 : 0 < n3 := nm_pos v3; have BX : Below W.heap.size W w3 := Below.up BW.out (Nat.le_refl _) bb'; clear BW; have BW : Hid (Below W.heap.size W w3) := BX; clear LB; have LB : Hid (W.heap.size ≤ w3.heap.size) := BX.size; clear BX bb'; clear b3 a3 r3 v3 nm3 AP
          refine hK.out _ _ (HS.out _ (BW.out)) (fun hHeld2 => ?_)
          clear hK K hHeld
          have hHeld := hHeld2
          clear hHeld2
          try simp only [Act.put, List.setIfInBounds_toArray, List.set_cons_zero, List.set_cons_succ]
          refine wpAnyH_ready (rs := [4, 7]) (by kernel_rfl) (by simp) ?_
          refine AllReadyH.cons rfl (fun K hK => ?_) ?_
          · go_simp
            go_at_call 52; refine Calls.mono (half_any p3 n3 c3 h3 _ P3 (by omega) q1 (A3.out) R3.out) ?_; rintro e w4 ⟨k4, rfl, b4, m4⟩; have bb' := b4; have M4 : Hid (At w4 (some ⟨k4, 0, none⟩) n3 (hv h3 n3)) := m4.at; have BX : Below W.heap.size W w4 := Below.up BW.out (Nat.le_refl _) bb'; clear BW; have BW : Hid (Below W.heap.size W w4) := BX; clear LB; have LB : Hid (W.heap.size ≤ w4.heap.size) := BX.size; clear BX bb'; clear b4 m4 A3
            refine hK.out _ _ (HS.out _ (BW.out)) (fun hHeld2 => ?_)
            clear hK K hHeld
            have hHeld := hHeld2
            clear hHeld2
            try simp only [Act.put, List.setIfInBounds_toArray, List.set_cons_zero, List.set_cons_succ]
            refine wpAnyH_ready (rs := [5, 7]) (by kernel_rfl) (by simp) ?_
            refine AllReadyH.cons rfl (fun K hK => ?_) ?_
            · go_simp
              go_at_call 52; refine Calls.mono (half_any (some ⟨k4, 0, none⟩) n3 n3 (hv h3 n3) _ P3 (by omega) (by omega) (M4.out) (hv_rg R3.out)) ?_; rintro e w5 ⟨k5, rfl, b5, m5⟩; have bb' := b5; have M5 : Hid (At w5 (some ⟨k5, 0, none⟩) n3 (hv (hv h3 n3) n3)) := m5.at; have BX : Below W.heap.size W w5 := Below.up BW.out (Nat.le_refl _) bb'; clear BW; have BW : Hid (Below W.heap.size W w5) := BX; clear LB; have LB : Hid (W.heap.size ≤ w5.heap.size) := BX.size; clear BX bb'; clear b5 m5 M4
              refine hK.out _ _ (HS.out _ (BW.out)) (fun hHeld2 => ?_)
              clear hK K hHeld
              have hHeld := hHeld2
              clear hHeld2
              try simp only [Act.put, List.setIfInBounds_toArray, List.set_cons_zero, List.set_cons_succ]
              refine wpAnyH_ready (rs := [6, 7]) (by kernel_rfl) (by simp) ?_
              refine AllReadyH.cons rfl (fun K hK => ?_) ?_
              · go_simp
                go_at_call 32; refine Calls.mono (KP.out (some ⟨k5, 0, none⟩) n3 n3 (hv (hv h3 n3) n3) SE _ RF.out LF.out (by omega) (M5.out) (hv_rg (hv_rg R3.out)) (by rw [hv_val P3, hv_val P3, V3.out, rL_val, val_one]; exact SE_val)) ?_; rintro e w6 ⟨v6, rfl, ⟨h6, rfl, r6, v6⟩, b6⟩; have bb' := b6; have R6 : Hid (Rg h6 6) := r6; have V6 : Hid (val h6 6 = sq (val f 6)) := v6; have BX : Below W.heap.size W w6 := Below.up BW.out (Nat.le_refl _) bb'; clear BW; have BW : Hid (Below W.heap.size W w6) := BX; clear LB; have LB : Hid (W.heap.size ≤ w6.heap.size) := BX.size; clear BX bb'; clear b6 r6 v6 M5 R3 V3 P3
                refine hK.out _ _ (HS.out _ (BW.out)) (fun hHeld2 => ?_)
                clear hK K hHeld
                have hHeld := hHeld2
                clear hHeld2
                try simp only [Act.put, List.setIfInBounds_toArray, List.set_cons_zero, List.set_cons_succ]
                refine wpAnyH_ready (rs := [7]) (by kernel_rfl) (by simp) ?_
                refine AllReadyH.cons rfl (fun K hK => ?_) AllReadyH.nil
                go_simp
                refine hK.out _ _ (HS.out _ (Below.up BW.out (Nat.le_refl _) (below_one _ _))) (fun hHeld2 => ?_)
                clear hK K hHeld
                have hHeld := hHeld2
                clear hHeld2
                try simp only [Act.put, List.setIfInBounds_toArray, List.set_cons_zero, List.set_cons_succ]
                refine wpAnyH_ready (rs := [8]) (by kernel_rfl) (by simp) ?_
                refine AllReadyH.cons rfl (fun K hK => ?_) AllReadyH.nil
                go_simp
                refine hK.out _ _ (HS.out _ ((finA h6 BW.out).1)) (fun hHeld2 => ?_)
                clear hK K hHeld hHeld2
                try simp only [Act.put, List.setIfInBounds_toArray, List.set_cons_zero, List.set_cons_succ]
                refine wpAnyH_done (by kernel_rfl) ?_ _
                exact ⟨rfl, _, h6, _, _, _, _, _, _, _, _, _, _, _, _, _, _, _, _, _, _, rfl, (finA h6 BW.out).1, (finA h6 BW.out).2, R6.out, V6.out, LB.out⟩
              refine AllReadyH.cons rfl (fun K hK => ?_) AllReadyH.nil
              go_simp
              refine hK.out _ _ (HS.out _ (Below.up BW.out (Nat.le_refl _) (below_one _ _))) (fun hHeld2 => ?_)
              clear hK K hHeld
              have hHeld := hHeld2
              clear hHeld2
              try simp only [Act.put, List.setIfInBounds_toArray, List.set_cons_zero, List.set_cons_succ]
              refine wpAnyH_ready (rs := [6]) (by kernel_rfl) (by simp) ?_
              refine AllReadyH.cons rfl (fun K hK => ?_) AllReadyH.nil
              go_simp
              go_at_call 32; refine Calls.mono (KP.out (some ⟨k5, 0, none⟩) n3 n3 (hv (hv h3 n3) n3) SE _ RF.out LF.out (by omega) (AtK.below M5.out (below_one _ _)) (hv_rg (hv_rg R3.out)) (by rw [hv_val P3, hv_val P3, V3.out, rL_val, val_one]; exact SE_val)) ?_; rintro e w6 ⟨v6, rfl, ⟨h6, rfl, r6, v6⟩, b6⟩; have bb' := (box1 b6).1; have MX : Hid _ := (box1 b6).2; have LX : Hid (W.heap.size ≤ w5.heap.size) := (by exact LB.out); have R6 : Hid (Rg h6 6) := r6; have V6 : Hid (val h6 6 = sq (val f 6)) := v6; obtain ⟨m0, m1, m2, m3, m4, m5⟩ := MutK.cells6 MX.out; obtain ⟨n0, n1, n2, n3, n4, n5⟩ := MutK.free6 MX.out; have BX : Below W.heap.size W w6 := Below.up BW.out (Nat.le_refl _) bb'; clear BW; have BW : Hid (Below W.heap.size W w6) := BX; clear LB; have LB : Hid (W.heap.size ≤ w6.heap.size) := BX.size; clear BX bb'; clear b6 r6 v6 M5 R3 V3 P3
              refine hK.out _ _ (HS.out _ (BW.out)) (fun hHeld2 => ?_)
              clear hK K hHeld
              have hHeld := hHeld2
              clear hHeld2
              try simp only [Act.put, List.setIfInBounds_toArray, List.set_cons_zero, List.set_cons_succ]
              refine wpAnyH_ready (rs := [8]) (by kernel_rfl) (by simp) ?_
              refine AllReadyH.cons rfl (fun K hK => ?_) AllReadyH.nil
              go_simp
              refine hK.out _ _ (HS.out _ (below_set6 BW.out LX.out _ _ _ _ _ _)) (fun hHeld2 => ?_)
              clear hK K hHeld hHeld2
              try simp only [Act.put, List.setIfInBounds_toArray, List.set_cons_zero, List.set_cons_succ]
              refine wpAnyH_done (by kernel_rfl) ?_ _
              exact ⟨rfl, _, h6, _, _, _, _, _, _, _, _, _, _, _, _, _, _, _, _, _, _, rfl, (finB h6 BW.out MX.out LX.out).1, (finB h6 BW.out MX.out LX.out).2, R6.out, V6.out, LX.out⟩
            refine AllReadyH.cons rfl (fun K hK => ?_) AllReadyH.nil
            go_simp
            refine hK.out _ _ (HS.out _ (Below.up BW.out (Nat.le_refl _) (below_one _ _))) (fun hHeld2 => ?_)
            clear hK K hHeld
            have hHeld := hHeld2
            clear hHeld2
            try simp only [Act.put, List.setIfInBounds_toArray, List.set_cons_zero, List.set_cons_succ]
            refine wpAnyH_ready (rs := [5]) (by kernel_rfl) (by simp) ?_
            refine AllReadyH.cons rfl (fun K hK => ?_) AllReadyH.nil
            go_simp
            go_at_call 52; refine Calls.mono (half_any (some ⟨k4, 0, none⟩) n3 n3 (hv h3 n3) _ P3 (by omega) (by omega) (AtK.below M4.out (below_one _ _)) (hv_rg R3.out)) ?_; rintro e w5 ⟨k5, rfl, b5, m5⟩; have bb' := (box1 b5).1; have MX : Hid _ := (box1 b5).2; have LX : Hid (W.heap.size ≤ w4.heap.size) := (by exact LB.out); have M5 : Hid (At w5 (some ⟨k5, 0, none⟩) n3 (hv (hv h3 n3) n3)) := m5.at; have BX : Below W.heap.size W w5 := Below.up BW.out (Nat.le_refl _) bb'; clear BW; have BW : Hid (Below W.heap.size W w5) := BX; clear LB; have LB : Hid (W.heap.size ≤ w5.heap.size) := BX.size; clear BX bb'; clear b5 m5 M4
            refine hK.out _ _ (HS.out _ (BW.out)) (fun hHeld2 => ?_)
            clear hK K hHeld
            have hHeld := hHeld2
            clear hHeld2
            try simp only [Act.put, List.setIfInBounds_toArray, List.set_cons_zero, List.set_cons_succ]
            refine wpAnyH_ready (rs := [6]) (by kernel_rfl) (by simp) ?_
            refine AllReadyH.cons rfl (fun K hK => ?_) AllReadyH.nil
            go_simp
            go_at_call 32; refine Calls.mono (KP.out (some ⟨k5, 0, none⟩) n3 n3 (hv (hv h3 n3) n3) SE _ RF.out LF.out (by omega) (M5.out) (hv_rg (hv_rg R3.out)) (by rw [hv_val P3, hv_val P3, V3.out, rL_val, val_one]; exact SE_val)) ?_; rintro e w6 ⟨v6, rfl, ⟨h6, rfl, r6, v6⟩, b6⟩; have bb' := b6; have MX3 : Hid _ := MutK.below MX.out bb' (cell_lt (MutK.cells6 MX.out).1); clear MX; have MX : Hid _ := MX3.out; clear MX3; have R6 : Hid (Rg h6 6) := r6; have V6 : Hid (val h6 6 = sq (val f 6)) := v6; obtain ⟨m0, m1, m2, m3, m4, m5⟩ := MutK.cells6 MX.out; obtain ⟨n0, n1, n2, n3, n4, n5⟩ := MutK.free6 MX.out; have BX : Below W.heap.size W w6 := Below.up BW.out (Nat.le_refl _) bb'; clear BW; have BW : Hid (Below W.heap.size W w6) := BX; clear LB; have LB : Hid (W.heap.size ≤ w6.heap.size) := BX.size; clear BX bb'; clear b6 r6 v6 M5 R3 V3 P3
            refine hK.out _ _ (HS.out _ (BW.out)) (fun hHeld2 => ?_)
            clear hK K hHeld
            have hHeld := hHeld2
            clear hHeld2
            try simp only [Act.put, List.setIfInBounds_toArray, List.set_cons_zero, List.set_cons_succ]
            refine wpAnyH_ready (rs := [8]) (by kernel_rfl) (by simp) ?_
            refine AllReadyH.cons rfl (fun K hK => ?_) AllReadyH.nil
            go_simp
            refine hK.out _ _ (HS.out _ (below_set6 BW.out LX.out _ _ _ _ _ _)) (fun hHeld2 => ?_)
            clear hK K hHeld hHeld2
            try simp only [Act.put, List.setIfInBounds_toArray, List.set_cons_zero, List.set_cons_succ]
            refine wpAnyH_done (by kernel_rfl) ?_ _
            exact ⟨rfl, _, h6, _, _, _, _, _, _, _, _, _, _, _, _, _, _, _, _, _, _, rfl, (finB h6 BW.out MX.out LX.out).1, (finB h6 BW.out MX.out LX.out).2, R6.out, V6.out, LX.out⟩
          refine AllReadyH.cons rfl (fun K hK => ?_) AllReadyH.nil
          go_simp
          refine hK.out _ _ (HS.out _ (Below.up BW.out (Nat.le_refl _) (below_one _ _))) (fun hHeld2 => ?_)
          clear hK K hHeld
          have hHeld := hHeld2
          clear hHeld2
          try simp only [Act.put, List.setIfInBounds_toArray, List.set_cons_zero, List.set_cons_succ]
          refine wpAnyH_ready (rs := [4]) (by kernel_rfl) (by simp) ?_
          refine AllReadyH.cons rfl (fun K hK => ?_) AllReadyH.nil
          go_simp
          go_at_call 52; refine Calls.mono (half_any p3 n3 c3 h3 _ P3 (by omega) q1 (AtK.below A3.out (below_one _ _)) R3.out) ?_; rintro e w4 ⟨k4, rfl, b4, m4⟩; have bb' := (box1 b4).1; have MX : Hid _ := (box1 b4).2; have LX : Hid (W.heap.size ≤ w3.heap.size) := (by exact LB.out); have M4 : Hid (At w4 (some ⟨k4, 0, none⟩) n3 (hv h3 n3)) := m4.at; have BX : Below W.heap.size W w4 := Below.up BW.out (Nat.le_refl _) bb'; clear BW; have BW : Hid (Below W.heap.size W w4) := BX; clear LB; have LB : Hid (W.heap.size ≤ w4.heap.size) := BX.size; clear BX bb'; clear b4 m4 A3
          refine hK.out _ _ (HS.out _ (BW.out)) (fun hHeld2 => ?_)
          clear hK K hHeld
          have hHeld := hHeld2
          clear hHeld2
          try simp only [Act.put, List.setIfInBounds_toArray, List.set_cons_zero, List.set_cons_succ]
          refine wpAnyH_ready (rs := [5]) (by kernel_rfl) (by simp) ?_
          refine AllReadyH.cons rfl (fun K hK => ?_) AllReadyH.nil
          go_simp
          go_at_call 52; refine Calls.mono (half_any (some ⟨k4, 0, none⟩) n3 n3 (hv h3 n3) _ P3 (by omega) (by omega) (M4.out) (hv_rg R3.out)) ?_; rintro e w5 ⟨k5, rfl, b5, m5⟩; have bb' := b5; have MX3 : Hid _ := MutK.below MX.out bb' (cell_lt (MutK.cells6 MX.out).1); clear MX; have MX : Hid _ := MX3.out; clear MX3; have M5 : Hid (At w5 (some ⟨k5, 0, none⟩) n3 (hv (hv h3 n3) n3)) := m5.at; have BX : Below W.heap.size W w5 := Below.up BW.out (Nat.le_refl _) bb'; clear BW; have BW : Hid (Below W.heap.size W w5) := BX; clear LB; have LB : Hid (W.heap.size ≤ w5.heap.size) := BX.size; clear BX bb'; clear b5 m5 M4
          refine hK.out _ _ (HS.out _ (BW.out)) (fun hHeld2 => ?_)
          clear hK K hHeld
          have hHeld := hHeld2
          clear hHeld2
          try simp only [Act.put, List.setIfInBounds_toArray, List.set_cons_zero, List.set_cons_succ]
          refine wpAnyH_ready (rs := [6]) (by kernel_rfl) (by simp) ?_
          refine AllReadyH.cons rfl (fun K hK => ?_) AllReadyH.nil
          go_simp
          go_at_call 32; refine Calls.mono (KP.out (some ⟨k5, 0, none⟩) n3 n3 (hv (hv h3 n3) n3) SE _ RF.out LF.out (by omega) (M5.out) (hv_rg (hv_rg R3.out)) (by rw [hv_val P3, hv_val P3, V3.out, rL_val, val_one]; exact SE_val)) ?_; rintro e w6 ⟨v6, rfl, ⟨h6, rfl, r6, v6⟩, b6⟩; have bb' := b6; have MX3 : Hid _ := MutK.below MX.out bb' (cell_lt (MutK.cells6 MX.out).1); clear MX; have MX : Hid _ := MX3.out; clear MX3; have R6 : Hid (Rg h6 6) := r6; have V6 : Hid (val h6 6 = sq (val f 6)) := v6; obtain ⟨m0, m1, m2, m3, m4, m5⟩ := MutK.cells6 MX.out; obtain ⟨n0, n1, n2, n3, n4, n5⟩ := MutK.free6 MX.out; have BX : Below W.heap.size W w6 := Below.up BW.out (Nat.le_refl _) bb'; clear BW; have BW : Hid (Below W.heap.size W w6) := BX; clear LB; have LB : Hid (W.heap.size ≤ w6.heap.size) := BX.size; clear BX bb'; clear b6 r6 v6 M5 R3 V3 P3
          refine hK.out _ _ (HS.out _ (BW.out)) (fun hHeld2 => ?_)
          clear hK K hHeld
          have hHeld := hHeld2
          clear hHeld2
          try simp only [Act.put, List.setIfInBounds_toArray, List.set_cons_zero, List.set_cons_succ]
          refine wpAnyH_ready (rs := [8]) (by kernel_rfl) (by simp) ?_
          refine AllReadyH.cons rfl (fun K hK => ?_) AllReadyH.nil
          go_simp
          refine hK.out _ _ (HS.out _ (below_set6 BW.out LX.out _ _ _ _ _ _)) (fun hHeld2 => ?_)
          clear hK K hHeld hHeld2
          try simp only [Act.put, List.setIfInBounds_toArray, List.set_cons_zero, List.set_cons_succ]
          refine wpAnyH_done (by kernel_rfl) ?_ _
          exact ⟨rfl, _, h6, _, _, _, _, _, _, _, _, _, _, _, _, _, _, _, _, _, _, rfl, (finB h6 BW.out MX.out LX.out).1, (finB h6 BW.out MX.out LX.out).2, R6.out, V6.out, LX.out⟩
        refine AllReadyH.cons rfl (fun K hK => ?_) AllReadyH.nil
        go_simp
        refine hK.out _ _ (HS.out _ (Below.up BW.out (Nat.le_refl _) (below_two _ _ _))) (fun hHeld2 => ?_)
        clear hK K hHeld
        have hHeld := hHeld2
        clear hHeld2
        try simp only [Act.put, List.setIfInBounds_toArray, List.set_cons_zero, List.set_cons_succ]
        refine wpAnyH_ready (rs := [3]) (by kernel_rfl) (by simp) ?_
        refine AllReadyH.cons rfl (fun K hK => ?_) AllReadyH.nil
        go_simp
        go_at_call 38; refine Calls.mono (refSum_any _ _ 6 1 6 1 rL (one 1) _ (by omega) (by omega) (by omega) (by omega) (AtK.below AP.out (below_two _ _ _)) (AtK.below (at_one _ _ _) (below_one _ _)) rL_rg (one_rg ⟨by decide, by rw [B64_eq]; decide⟩ 1) (by omega) (by omega)) ?_; rintro e w3 ⟨v3, rfl, b3, p3, n3, c3, h3, rfl, q1, q2, q3, a3, r3, nm3, v3⟩; have bb' := (litbox b3).1; have MX : Hid _ := (litbox b3).2.2; have LX : Hid (W.heap.size ≤ w2.heap.size + 1) := Nat.le_succ_of_le LB.out; have A3 : Hid (At w3 p3 n3 h3) := a3; have R3 : Hid _ := r3; have V3 : Hid _ := v3; have P3 : 0 < n3 := nm_pos v3; have BX : Below W.heap.size W w3 := Below.up BW.out (Nat.le_refl _) bb'; clear BW; have BW : Hid (Below W.heap.size W w3) := BX; clear LB; have LB : Hid (W.heap.size ≤ w3.heap.size) := BX.size; clear BX bb'; clear b3 a3 r3 v3 nm3 AP
        refine hK.out _ _ (HS.out _ (BW.out)) (fun hHeld2 => ?_)
        clear hK K hHeld
        have hHeld := hHeld2
        clear hHeld2
        try simp only [Act.put, List.setIfInBounds_toArray, List.set_cons_zero, List.set_cons_succ]
        refine wpAnyH_ready (rs := [4]) (by kernel_rfl) (by simp) ?_
        refine AllReadyH.cons rfl (fun K hK => ?_) AllReadyH.nil
        go_simp
        go_at_call 52; refine Calls.mono (half_any p3 n3 c3 h3 _ P3 (by omega) q1 (A3.out) R3.out) ?_; rintro e w4 ⟨k4, rfl, b4, m4⟩; have bb' := b4; have MX3 : Hid _ := MutK.below MX.out bb' (cell_lt (MutK.cells6 MX.out).1); clear MX; have MX : Hid _ := MX3.out; clear MX3; have M4 : Hid (At w4 (some ⟨k4, 0, none⟩) n3 (hv h3 n3)) := m4.at; have BX : Below W.heap.size W w4 := Below.up BW.out (Nat.le_refl _) bb'; clear BW; have BW : Hid (Below W.heap.size W w4) := BX; clear LB; have LB : Hid (W.heap.size ≤ w4.heap.size) := BX.size; clear BX bb'; clear b4 m4 A3
        refine hK.out _ _ (HS.out _ (BW.out)) (fun hHeld2 => ?_)
        clear hK K hHeld
        have hHeld := hHeld2
        clear hHeld2
        try simp only [Act.put, List.setIfInBounds_toArray, List.set_cons_zero, List.set_cons_succ]
        refine wpAnyH_ready (rs := [5]) (by kernel_rfl) (by simp) ?_
        refine AllReadyH.cons rfl (fun K hK => ?_) AllReadyH.nil
        go_simp
        go_at_call 52; refine Calls.mono (half_any (some ⟨k4, 0, none⟩) n3 n3 (hv h3 n3) _ P3 (by omega) (by omega) (M4.out) (hv_rg R3.out)) ?_; rintro e w5 ⟨k5, rfl, b5, m5⟩; have bb' := b5; have MX3 : Hid _ := MutK.below MX.out bb' (cell_lt (MutK.cells6 MX.out).1); clear MX; have MX : Hid _ := MX3.out; clear MX3; have M5 : Hid (At w5 (some ⟨k5, 0, none⟩) n3 (hv (hv h3 n3) n3)) := m5.at; have BX : Below W.heap.size W w5 := Below.up BW.out (Nat.le_refl _) bb'; clear BW; have BW : Hid (Below W.heap.size W w5) := BX; clear LB; have LB : Hid (W.heap.size ≤ w5.heap.size) := BX.size; clear BX bb'; clear b5 m5 M4
        refine hK.out _ _ (HS.out _ (BW.out)) (fun hHeld2 => ?_)
        clear hK K hHeld
        have hHeld := hHeld2
        clear hHeld2
        try simp only [Act.put, List.setIfInBounds_toArray, List.set_cons_zero, List.set_cons_succ]
        refine wpAnyH_ready (rs := [6]) (by kernel_rfl) (by simp) ?_
        refine AllReadyH.cons rfl (fun K hK => ?_) AllReadyH.nil
        go_simp
        go_at_call 32; refine Calls.mono (KP.out (some ⟨k5, 0, none⟩) n3 n3 (hv (hv h3 n3) n3) SE _ RF.out LF.out (by omega) (M5.out) (hv_rg (hv_rg R3.out)) (by rw [hv_val P3, hv_val P3, V3.out, rL_val, val_one]; exact SE_val)) ?_; rintro e w6 ⟨v6, rfl, ⟨h6, rfl, r6, v6⟩, b6⟩; have bb' := b6; have MX3 : Hid _ := MutK.below MX.out bb' (cell_lt (MutK.cells6 MX.out).1); clear MX; have MX : Hid _ := MX3.out; clear MX3; have R6 : Hid (Rg h6 6) := r6; have V6 : Hid (val h6 6 = sq (val f 6)) := v6; obtain ⟨m0, m1, m2, m3, m4, m5⟩ := MutK.cells6 MX.out; obtain ⟨n0, n1, n2, n3, n4, n5⟩ := MutK.free6 MX.out; have BX : Below W.heap.size W w6 := Below.up BW.out (Nat.le_refl _) bb'; clear BW; have BW : Hid (Below W.heap.size W w6) := BX; clear LB; have LB : Hid (W.heap.size ≤ w6.heap.size) := BX.size; clear BX bb'; clear b6 r6 v6 M5 R3 V3 P3
        refine hK.out _ _ (HS.out _ (BW.out)) (fun hHeld2 => ?_)
        clear hK K hHeld
        have hHeld := hHeld2
        clear hHeld2
        try simp only [Act.put, List.setIfInBounds_toArray, List.set_cons_zero, List.set_cons_succ]
        refine wpAnyH_ready (rs := [8]) (by kernel_rfl) (by simp) ?_
        refine AllReadyH.cons rfl (fun K hK => ?_) AllReadyH.nil
        go_simp
        refine hK.out _ _ (HS.out _ (below_set6 BW.out LX.out _ _ _ _ _ _)) (fun hHeld2 => ?_)
        clear hK K hHeld hHeld2
        try simp only [Act.put, List.setIfInBounds_toArray, List.set_cons_zero, List.set_cons_succ]
        refine wpAnyH_done (by kernel_rfl) ?_ _
        exact ⟨rfl, _, h6, _, _, _, _, _, _, _, _, _, _, _, _, _, _, _, _, _, _, rfl, (finB h6 BW.out MX.out LX.out).1, (finB h6 BW.out MX.out LX.out).2, R6.out, V6.out, LX.out⟩
      refine AllReadyH.cons rfl (fun K hK => ?_) AllReadyH.nil
      go_simp
      refine hK.out _ _ (HS.out _ (Below.up BW.out (Nat.le_refl _) (below_one _ _))) (fun hHeld2 => ?_)
      clear hK K hHeld
      have hHeld := hHeld2
      clear hHeld2
      try simp only [Act.put, List.setIfInBounds_toArray, List.set_cons_zero, List.set_cons_succ]
      refine wpAnyH_ready (rs := [2]) (by kernel_rfl) (by simp) ?_
      refine AllReadyH.cons rfl (fun K hK => ?_) AllReadyH.nil
      go_simp
      refine hK.out _ _ (HS.out _ (Below.up BW.out (Nat.le_refl _) (below_two _ _ _))) (fun hHeld2 => ?_)
      clear hK K hHeld
      have hHeld := hHeld2
      clear hHeld2
      try simp only [Act.put, List.setIfInBounds_toArray, List.set_cons_zero, List.set_cons_succ]
      refine wpAnyH_ready (rs := [3]) (by kernel_rfl) (by simp) ?_
      refine AllReadyH.cons rfl (fun K hK => ?_) AllReadyH.nil
      go_simp
      go_at_call 38; refine Calls.mono (refSum_any _ _ 6 1 6 1 rL (one 1) _ (by omega) (by omega) (by omega) (by omega) (AtK.below AP.out (below_two _ _ _)) (at_one2 _) rL_rg (one_rg ⟨by decide, by rw [B64_eq]; decide⟩ 1) (by omega) (by omega)) ?_; rintro e w3 ⟨v3, rfl, b3, p3, n3, c3, h3, rfl, q1, q2, q3, a3, r3, nm3, v3⟩; have bb' := (boxlit b3).1; have MX : Hid _ := (boxlit b3).2.2; have LX : Hid (W.heap.size ≤ w2.heap.size) := (by exact LB.out); have A3 : Hid (At w3 p3 n3 h3) := a3; have R3 : Hid _ := r3; have V3 : Hid _ := v3; have P3 : 0 < n3 := nm_pos v3; have BX : Below W.heap.size W w3 := Below.up BW.out (Nat.le_refl _) bb'; clear BW; have BW : Hid (Below W.heap.size W w3) := BX; clear LB; have LB : Hid (W.heap.size ≤ w3.heap.size) := BX.size; clear BX bb'; clear b3 a3 r3 v3 nm3 AP
      refine hK.out _ _ (HS.out _ (BW.out)) (fun hHeld2 => ?_)
      clear hK K hHeld
      have hHeld := hHeld2
      clear hHeld2
      try simp only [Act.put, List.setIfInBounds_toArray, List.set_cons_zero, List.set_cons_succ]
      refine wpAnyH_ready (rs := [4]) (by kernel_rfl) (by simp) ?_
      refine AllReadyH.cons rfl (fun K hK => ?_) AllReadyH.nil
      go_simp
      go_at_call 52; refine Calls.mono (half_any p3 n3 c3 h3 _ P3 (by omega) q1 (A3.out) R3.out) ?_; rintro e w4 ⟨k4, rfl, b4, m4⟩; have bb' := b4; have MX3 : Hid _ := MutK.below MX.out bb' (cell_lt (MutK.cells6 MX.out).1); clear MX; have MX : Hid _ := MX3.out; clear MX3; have M4 : Hid (At w4 (some ⟨k4, 0, none⟩) n3 (hv h3 n3)) := m4.at; have BX : Below W.heap.size W w4 := Below.up BW.out (Nat.le_refl _) bb'; clear BW; have BW : Hid (Below W.heap.size W w4) := BX; clear LB; have LB : Hid (W.heap.size ≤ w4.heap.size) := BX.size; clear BX bb'; clear b4 m4 A3
      refine hK.out _ _ (HS.out _ (BW.out)) (fun hHeld2 => ?_)
      clear hK K hHeld
      have hHeld := hHeld2
      clear hHeld2
      try simp only [Act.put, List.setIfInBounds_toArray, List.set_cons_zero, List.set_cons_succ]
      refine wpAnyH_ready (rs := [5]) (by kernel_rfl) (by simp) ?_
      refine AllReadyH.cons rfl (fun K hK => ?_) AllReadyH.nil
      go_simp
      go_at_call 52; refine Calls.mono (half_any (some ⟨k4, 0, none⟩) n3 n3 (hv h3 n3) _ P3 (by omega) (by omega) (M4.out) (hv_rg R3.out)) ?_; rintro e w5 ⟨k5, rfl, b5, m5⟩; have bb' := b5; have MX3 : Hid _ := MutK.below MX.out bb' (cell_lt (MutK.cells6 MX.out).1); clear MX; have MX : Hid _ := MX3.out; clear MX3; have M5 : Hid (At w5 (some ⟨k5, 0, none⟩) n3 (hv (hv h3 n3) n3)) := m5.at; have BX : Below W.heap.size W w5 := Below.up BW.out (Nat.le_refl _) bb'; clear BW; have BW : Hid (Below W.heap.size W w5) := BX; clear LB; have LB : Hid (W.heap.size ≤ w5.heap.size) := BX.size; clear BX bb'; clear b5 m5 M4
      refine hK.out _ _ (HS.out _ (BW.out)) (fun hHeld2 => ?_)
      clear hK K hHeld
      have hHeld := hHeld2
      clear hHeld2
      try simp only [Act.put, List.setIfInBounds_toArray, List.set_cons_zero, List.set_cons_succ]
      refine wpAnyH_ready (rs := [6]) (by kernel_rfl) (by simp) ?_
      refine AllReadyH.cons rfl (fun K hK => ?_) AllReadyH.nil
      go_simp
      go_at_call 32; refine Calls.mono (KP.out (some ⟨k5, 0, none⟩) n3 n3 (hv (hv h3 n3) n3) SE _ RF.out LF.out (by omega) (M5.out) (hv_rg (hv_rg R3.out)) (by rw [hv_val P3, hv_val P3, V3.out, rL_val, val_one]; exact SE_val)) ?_; rintro e w6 ⟨v6, rfl, ⟨h6, rfl, r6, v6⟩, b6⟩; have bb' := b6; have MX3 : Hid _ := MutK.below MX.out bb' (cell_lt (MutK.cells6 MX.out).1); clear MX; have MX : Hid _ := MX3.out; clear MX3; have R6 : Hid (Rg h6 6) := r6; have V6 : Hid (val h6 6 = sq (val f 6)) := v6; obtain ⟨m0, m1, m2, m3, m4, m5⟩ := MutK.cells6 MX.out; obtain ⟨n0, n1, n2, n3, n4, n5⟩ := MutK.free6 MX.out; have BX : Below W.heap.size W w6 := Below.up BW.out (Nat.le_refl _) bb'; clear BW; have BW : Hid (Below W.heap.size W w6) := BX; clear LB; have LB : Hid (W.heap.size ≤ w6.heap.size) := BX.size; clear BX bb'; clear b6 r6 v6 M5 R3 V3 P3
      refine hK.out _ _ (HS.out _ (BW.out)) (fun hHeld2 => ?_)
      clear hK K hHeld
      have hHeld := hHeld2
      clear hHeld2
      try simp only [Act.put, List.setIfInBounds_toArray, List.set_cons_zero, List.set_cons_succ]
      refine wpAnyH_ready (rs := [8]) (by kernel_rfl) (by simp) ?_
      refine AllReadyH.cons rfl (fun K hK => ?_) AllReadyH.nil
      go_simp
      refine hK.out _ _ (HS.out _ (below_set6 BW.out LX.out _ _ _ _ _ _)) (fun hHeld2 => ?_)
      clear hK K hHeld hHeld2
      try simp only [Act.put, List.setIfInBounds_toArray, List.set_cons_zero, List.set_cons_succ]
      refine wpAnyH_done (by kernel_rfl) ?_ _
      exact ⟨rfl, _, h6, _, _, _, _, _, _, _, _, _, _, _, _, _, _, _, _, _, _, rfl, (finB h6 BW.out MX.out LX.out).1, (finB h6 BW.out MX.out LX.out).2, R6.out, V6.out, LX.out⟩
    refine AllReadyH.cons rfl (fun K hK => ?_) ?_
    · go_simp
      refine hK.out _ _ (HS.out _ (Below.drew (below_one _ _))) (fun hHeld2 => ?_)
      clear hK K hHeld
      have hHeld := hHeld2
      clear hHeld2
      try simp only [Act.put, List.setIfInBounds_toArray, List.set_cons_zero, List.set_cons_succ]
      refine wpAnyH_ready (rs := [1, 7]) (by kernel_rfl) (by simp) ?_
      refine AllReadyH.cons rfl (fun K hK => ?_) ?_
      · go_simp
        go_at_call 26; refine Calls.mono (refP_new _) ?_; rintro e w2 ⟨k2, rfl, b2, a2⟩; have bb' := (lit1 (below_drew b2)).1; have ML : Hid _ := (lit1 (below_drew b2)).2; have AP : Hid (At w2 (some ⟨k2, 0, none⟩) 6 rL) := a2; have BX : Below W.heap.size W w2 := Below.up BW.out (Nat.le_refl _) bb'; clear BW; have BW : Hid (Below W.heap.size W w2) := BX; clear LB; have LB : Hid (W.heap.size ≤ w2.heap.size) := BX.size; clear BX bb'; clear b2 a2
        refine hK.out _ _ (HS.out _ (BW.out)) (fun hHeld2 => ?_)
        clear hK K hHeld
        have hHeld := hHeld2
        clear hHeld2
        try simp only [Act.put, List.setIfInBounds_toArray, List.set_cons_zero, List.set_cons_succ]
        refine wpAnyH_ready (rs := [3, 7]) (by kernel_rfl) (by simp) ?_
        refine AllReadyH.cons rfl (fun K hK => ?_) ?_
        · go_simp
          go_at_call 38; refine Calls.mono (refSum_any _ _ 6 1 6 1 rL (one 1) _ (by omega) (by omega) (by omega) (by omega) (AP.out) (ML.out) rL_rg (one_rg ⟨by decide, by rw [B64_eq]; decide⟩ 1) (by omega) (by omega)) ?_; rintro e w3 ⟨v3, rfl, b3, p3, n3, c3, h3, rfl, q1, q2, q3, a3, r3, nm3, v3⟩; have bb' := b3; clear ML; have A3 : Hid (At w3 p3 n3 h3) := a3; have R3 : Hid _ := r3; have V3 : Hid _ := v3; have P3 : 0 < n3 := nm_pos v3; have BX : Below W.heap.size W w3 := Below.up BW.out (Nat.le_refl _) bb'; clear BW; have BW : Hid (Below W.heap.size W w3) := BX; clear LB; have LB : Hid (W.heap.size ≤ w3.heap.size) := BX.size; clear BX bb'; clear b3 a3 r3 v3 nm3 AP
          refine hK.out _ _ (HS.out _ (BW.out)) (fun hHeld2 => ?_)
          clear hK K hHeld
          have hHeld := hHeld2
          clear hHeld2
          try simp only [Act.put, List.setIfInBounds_toArray, List.set_cons_zero, List.set_cons_succ]
          refine wpAnyH_ready (rs := [4, 7]) (by kernel_rfl) (by simp) ?_
          refine AllReadyH.cons rfl (fun K hK => ?_) ?_
          · go_simp
            go_at_call 52; refine Calls.mono (half_any p3 n3 c3 h3 _ P3 (by omega) q1 (A3.out) R3.out) ?_; rintro e w4 ⟨k4, rfl, b4, m4⟩; have bb' := b4; have M4 : Hid (At w4 (some ⟨k4, 0, none⟩) n3 (hv h3 n3)) := m4.at; have BX : Below W.heap.size W w4 := Below.up BW.out (Nat.le_refl _) bb'; clear BW; have BW : Hid (Below W.heap.size W w4) := BX; clear LB; have LB : Hid (W.heap.size ≤ w4.heap.size) := BX.size; clear BX bb'; clear b4 m4 A3
            refine hK.out _ _ (HS.out _ (BW.out)) (fun hHeld2 => ?_)
            clear hK K hHeld
            have hHeld := hHeld2
            clear hHeld2
            try simp only [Act.put, List.setIfInBounds_toArray, List.set_cons_zero, List.set_cons_succ]
            refine wpAnyH_ready (rs := [5, 7]) (by kernel_rfl) (by simp) ?_
            refine AllReadyH.cons rfl (fun K hK => ?_) ?_
            · go_simp
              go_at_call 52; refine Calls.mono (half_any (some ⟨k4, 0, none⟩) n3 n3 (hv h3 n3) _ P3 (by omega) (by omega) (M4.out) (hv_rg R3.out)) ?_; rintro e w5 ⟨k5, rfl, b5, m5⟩; have bb' := b5; have M5 : Hid (At w5 (some ⟨k5, 0, none⟩) n3 (hv (hv h3 n3) n3)) := m5.at; have BX : Below W.heap.size W w5 := Below.up BW.out (Nat.le_refl _) bb'; clear BW; have BW : Hid (Below W.heap.size W w5) := BX; clear LB; have LB : Hid (W.heap.size ≤ w5.heap.size) := BX.size; clear BX bb'; clear b5 m5 M4
              refine hK.out _ _ (HS.out _ (BW.out)) (fun hHeld2 => ?_)
              clear hK K hHeld
              have hHeld := hHeld2
              clear hHeld2
              try simp only [Act.put, List.setIfInBounds_toArray, List.set_cons_zero, List.set_cons_succ]
              refine wpAnyH_ready (rs := [6, 7]) (by kernel_rfl) (by simp) ?_
              refine AllReadyH.cons rfl (fun K hK => ?_) ?_
              · go_simp
                go_at_call 32; refine Calls.mono (KP.out (some ⟨k5, 0, none⟩) n3 n3 (hv (hv h3 n3) n3) SE _ RF.out LF.out (by omega) (M5.out) (hv_rg (hv_rg R3.out)) (by rw [hv_val P3, hv_val P3, V3.out, rL_val, val_one]; exact SE_val)) ?_; rintro e w6 ⟨v6, rfl, ⟨h6, rfl, r6, v6⟩, b6⟩; have bb' := b6; have R6 : Hid (Rg h6 6) := r6; have V6 : Hid (val h6 6 = sq (val f 6)) := v6; have BX : Below W.heap.size W w6 := Below.up BW.out (Nat.le_refl _) bb'; clear BW; have BW : Hid (Below W.heap.size W w6) := BX; clear LB; have LB : Hid (W.heap.size ≤ w6.heap.size) := BX.size; clear BX bb'; clear b6 r6 v6 M5 R3 V3 P3
                refine hK.out _ _ (HS.out _ (BW.out)) (fun hHeld2 => ?_)
                clear hK K hHeld
                have hHeld := hHeld2
                clear hHeld2
                try simp only [Act.put, List.setIfInBounds_toArray, List.set_cons_zero, List.set_cons_succ]
                refine wpAnyH_ready (rs := [7]) (by kernel_rfl) (by simp) ?_
                refine AllReadyH.cons rfl (fun K hK => ?_) AllReadyH.nil
                go_simp
                refine hK.out _ _ (HS.out _ (Below.up BW.out (Nat.le_refl _) (below_one _ _))) (fun hHeld2 => ?_)
                clear hK K hHeld
                have hHeld := hHeld2
                clear hHeld2
                try simp only [Act.put, List.setIfInBounds_toArray, List.set_cons_zero, List.set_cons_succ]
                refine wpAnyH_ready (rs := [8]) (by kernel_rfl) (by simp) ?_
                refine AllReadyH.cons rfl (fun K hK => ?_) AllReadyH.nil
                go_simp
                refine hK.out _ _ (HS.out _ ((finA h6 BW.out).1)) (fun hHeld2 => ?_)
                clear hK K hHeld hHeld2
                try simp only [Act.put, List.setIfInBounds_toArray, List.set_cons_zero, List.set_cons_succ]
                refine wpAnyH_done (by kernel_rfl) ?_ _
                exact ⟨rfl, _, h6, _, _, _, _, _, _, _, _, _, _, _, _, _, _, _, _, _, _, rfl, (finA h6 BW.out).1, (finA h6 BW.out).2, R6.out, V6.out, LB.out⟩
              refine AllReadyH.cons rfl (fun K hK => ?_) AllReadyH.nil
              go_simp
              refine hK.out _ _ (HS.out _ (Below.up BW.out (Nat.le_refl _) (below_one _ _))) (fun hHeld2 => ?_)
              clear hK K hHeld
              have hHeld := hHeld2
              clear hHeld2
              try simp only [Act.put, List.setIfInBounds_toArray, List.set_cons_zero, List.set_cons_succ]
              refine wpAnyH_ready (rs := [6]) (by kernel_rfl) (by simp) ?_
              refine AllReadyH.cons rfl (fun K hK => ?_) AllReadyH.nil
              go_simp
              go_at_call 32; refine Calls.mono (KP.out (some ⟨k5, 0, none⟩) n3 n3 (hv (hv h3 n3) n3) SE _ RF.out LF.out (by omega) (AtK.below M5.out (below_one _ _)) (hv_rg (hv_rg R3.out)) (by rw [hv_val P3, hv_val P3, V3.out, rL_val, val_one]; exact SE_val)) ?_; rintro e w6 ⟨v6, rfl, ⟨h6, rfl, r6, v6⟩, b6⟩; have bb' := (box1 b6).1; have MX : Hid _ := (box1 b6).2; have LX : Hid (W.heap.size ≤ w5.heap.size) := (by exact LB.out); have R6 : Hid (Rg h6 6) := r6; have V6 : Hid (val h6 6 = sq (val f 6)) := v6; obtain ⟨m0, m1, m2, m3, m4, m5⟩ := MutK.cells6 MX.out; obtain ⟨n0, n1, n2, n3, n4, n5⟩ := MutK.free6 MX.out; have BX : Below W.heap.size W w6 := Below.up BW.out (Nat.le_refl _) bb'; clear BW; have BW : Hid (Below W.heap.size W w6) := BX; clear LB; have LB : Hid (W.heap.size ≤ w6.heap.size) := BX.size; clear BX bb'; clear b6 r6 v6 M5 R3 V3 P3
              refine hK.out _ _ (HS.out _ (BW.out)) (fun hHeld2 => ?_)
              clear hK K hHeld
              have hHeld := hHeld2
              clear hHeld2
              try simp only [Act.put, List.setIfInBounds_toArray, List.set_cons_zero, List.set_cons_succ]
              refine wpAnyH_ready (rs := [8]) (by kernel_rfl) (by simp) ?_
              refine AllReadyH.cons rfl (fun K hK => ?_) AllReadyH.nil
              go_simp
              refine hK.out _ _ (HS.out _ (below_set6 BW.out LX.out _ _ _ _ _ _)) (fun hHeld2 => ?_)
              clear hK K hHeld hHeld2
              try simp only [Act.put, List.setIfInBounds_toArray, List.set_cons_zero, List.set_cons_succ]
              refine wpAnyH_done (by kernel_rfl) ?_ _
              exact ⟨rfl, _, h6, _, _, _, _, _, _, _, _, _, _, _, _, _, _, _, _, _, _, rfl, (finB h6 BW.out MX.out LX.out).1, (finB h6 BW.out MX.out LX.out).2, R6.out, V6.out, LX.out⟩
            refine AllReadyH.cons rfl (fun K hK => ?_) AllReadyH.nil
            go_simp
            refine hK.out _ _ (HS.out _ (Below.up BW.out (Nat.le_refl _) (below_one _ _))) (fun hHeld2 => ?_)
            clear hK K hHeld
            have hHeld := hHeld2
            clear hHeld2
            try simp only [Act.put, List.setIfInBounds_toArray, List.set_cons_zero, List.set_cons_succ]
            refine wpAnyH_ready (rs := [5]) (by kernel_rfl) (by simp) ?_
            refine AllReadyH.cons rfl (fun K hK => ?_) AllReadyH.nil
            go_simp
            go_at_call 52; refine Calls.mono (half_any (some ⟨k4, 0, none⟩) n3 n3 (hv h3 n3) _ P3 (by omega) (by omega) (AtK.below M4.out (below_one _ _)) (hv_rg R3.out)) ?_; rintro e w5 ⟨k5, rfl, b5, m5⟩; have bb' := (box1 b5).1; have MX : Hid _ := (box1 b5).2; have LX : Hid (W.heap.size ≤ w4.heap.size) := (by exact LB.out); have M5 : Hid (At w5 (some ⟨k5, 0, none⟩) n3 (hv (hv h3 n3) n3)) := m5.at; have BX : Below W.heap.size W w5 := Below.up BW.out (Nat.le_refl _) bb'; clear BW; have BW : Hid (Below W.heap.size W w5) := BX; clear LB; have LB : Hid (W.heap.size ≤ w5.heap.size) := BX.size; clear BX bb'; clear b5 m5 M4
            refine hK.out _ _ (HS.out _ (BW.out)) (fun hHeld2 => ?_)
            clear hK K hHeld
            have hHeld := hHeld2
            clear hHeld2
            try simp only [Act.put, List.setIfInBounds_toArray, List.set_cons_zero, List.set_cons_succ]
            refine wpAnyH_ready (rs := [6]) (by kernel_rfl) (by simp) ?_
            refine AllReadyH.cons rfl (fun K hK => ?_) AllReadyH.nil
            go_simp
            go_at_call 32; refine Calls.mono (KP.out (some ⟨k5, 0, none⟩) n3 n3 (hv (hv h3 n3) n3) SE _ RF.out LF.out (by omega) (M5.out) (hv_rg (hv_rg R3.out)) (by rw [hv_val P3, hv_val P3, V3.out, rL_val, val_one]; exact SE_val)) ?_; rintro e w6 ⟨v6, rfl, ⟨h6, rfl, r6, v6⟩, b6⟩; have bb' := b6; have MX3 : Hid _ := MutK.below MX.out bb' (cell_lt (MutK.cells6 MX.out).1); clear MX; have MX : Hid _ := MX3.out; clear MX3; have R6 : Hid (Rg h6 6) := r6; have V6 : Hid (val h6 6 = sq (val f 6)) := v6; obtain ⟨m0, m1, m2, m3, m4, m5⟩ := MutK.cells6 MX.out; obtain ⟨n0, n1, n2, n3, n4, n5⟩ := MutK.free6 MX.out; have BX : Below W.heap.size W w6 := Below.up BW.out (Nat.le_refl _) bb'; clear BW; have BW : Hid (Below W.heap.size W w6) := BX; clear LB; have LB : Hid (W.heap.size ≤ w6.heap.size) := BX.size; clear BX bb'; clear b6 r6 v6 M5 R3 V3 P3
            refine hK.out _ _ (HS.out _ (BW.out)) (fun hHeld2 => ?_)
            clear hK K hHeld
            have hHeld := hHeld2
            clear hHeld2
            try simp only [Act.put, List.setIfInBounds_toArray, List.set_cons_zero, List.set_cons_succ]
            refine wpAnyH_ready (rs := [8]) (by kernel_rfl) (by simp) ?_
            refine AllReadyH.cons rfl (fun K hK => ?_) AllReadyH.nil
            go_simp
            refine hK.out _ _ (HS.out _ (below_set6 BW.out LX.out _ _ _ _ _ _)) (fun hHeld2 => ?_)
            clear hK K hHeld hHeld2
            try simp only [Act.put, List.setIfInBounds_toArray, List.set_cons_zero, List.set_cons_succ]
            refine wpAnyH_done (by kernel_rfl) ?_ _
            exact ⟨rfl, _, h6, _, _, _, _, _, _, _, _, _, _, _, _, _, _, _, _, _, _, rfl, (finB h6 BW.out MX.out LX.out).1, (finB h6 BW.out MX.out LX.out).2, R6.out, V6.out, LX.out⟩
          refine AllReadyH.cons rfl (fun K hK => ?_) AllReadyH.nil
          go_simp
          refine hK.out _ _ (HS.out _ (Below.up BW.out (Nat.le_refl _) (below_one _ _))) (fun hHeld2 => ?_)
          clear hK K hHeld
          have hHeld := hHeld2
          clear hHeld2
          try simp only [Act.put, List.setIfInBounds_toArray, List.set_cons_zero, List.set_cons_succ]
          refine wpAnyH_ready (rs := [4]) (by kernel_rfl) (by simp) ?_
          refine AllReadyH.cons rfl (fun K hK => ?_) AllReadyH.nil
          go_simp
          go_at_call 52; refine Calls.mono (half_any p3 n3 c3 h3 _ P3 (by omega) q1 (AtK.below A3.out (below_one _ _)) R3.out) ?_; rintro e w4 ⟨k4, rfl, b4, m4⟩; have bb' := (box1 b4).1; have MX : Hid _ := (box1 b4).2; have LX : Hid (W.heap.size ≤ w3.heap.size) := (by exact LB.out); have M4 : Hid (At w4 (some ⟨k4, 0, none⟩) n3 (hv h3 n3)) := m4.at; have BX : Below W.heap.size W w4 := Below.up BW.out (Nat.le_refl _) bb'; clear BW; have BW : Hid (Below W.heap.size W w4) := BX; clear LB; have LB : Hid (W.heap.size ≤ w4.heap.size) := BX.size; clear BX bb'; clear b4 m4 A3
          refine hK.out _ _ (HS.out _ (BW.out)) (fun hHeld2 => ?_)
          clear hK K hHeld
          have hHeld := hHeld2
          clear hHeld2
          try simp only [Act.put, List.setIfInBounds_toArray, List.set_cons_zero, List.set_cons_succ]
          refine wpAnyH_ready (rs := [5]) (by kernel_rfl) (by simp) ?_
          refine AllReadyH.cons rfl (fun K hK => ?_) AllReadyH.nil
          go_simp
          go_at_call 52; refine Calls.mono (half_any (some ⟨k4, 0, none⟩) n3 n3 (hv h3 n3) _ P3 (by omega) (by omega) (M4.out) (hv_rg R3.out)) ?_; rintro e w5 ⟨k5, rfl, b5, m5⟩; have bb' := b5; have MX3 : Hid _ := MutK.below MX.out bb' (cell_lt (MutK.cells6 MX.out).1); clear MX; have MX : Hid _ := MX3.out; clear MX3; have M5 : Hid (At w5 (some ⟨k5, 0, none⟩) n3 (hv (hv h3 n3) n3)) := m5.at; have BX : Below W.heap.size W w5 := Below.up BW.out (Nat.le_refl _) bb'; clear BW; have BW : Hid (Below W.heap.size W w5) := BX; clear LB; have LB : Hid (W.heap.size ≤ w5.heap.size) := BX.size; clear BX bb'; clear b5 m5 M4
          refine hK.out _ _ (HS.out _ (BW.out)) (fun hHeld2 => ?_)
          clear hK K hHeld
          have hHeld := hHeld2
          clear hHeld2
          try simp only [Act.put, List.setIfInBounds_toArray, List.set_cons_zero, List.set_cons_succ]
          refine wpAnyH_ready (rs := [6]) (by kernel_rfl) (by simp) ?_
          refine AllReadyH.cons rfl (fun K hK => ?_) AllReadyH.nil
          go_simp
          go_at_call 32; refine Calls.mono (KP.out (some ⟨k5, 0, none⟩) n3 n3 (hv (hv h3 n3) n3) SE _ RF.out LF.out (by omega) (M5.out) (hv_rg (hv_rg R3.out)) (by rw [hv_val P3, hv_val P3, V3.out, rL_val, val_one]; exact SE_val)) ?_; rintro e w6 ⟨v6, rfl, ⟨h6, rfl, r6, v6⟩, b6⟩; have bb' := b6; have MX3 : Hid _ := MutK.below MX.out bb' (cell_lt (MutK.cells6 MX.out).1); clear MX; have MX : Hid _ := MX3.out; clear MX3; have R6 : Hid (Rg h6 6) := r6; have V6 : Hid (val h6 6 = sq (val f 6)) := v6; obtain ⟨m0, m1, m2, m3, m4, m5⟩ := MutK.cells6 MX.out; obtain ⟨n0, n1, n2, n3, n4, n5⟩ := MutK.free6 MX.out; have BX : Below W.heap.size W w6 := Below.up BW.out (Nat.le_refl _) bb'; clear BW; have BW : Hid (Below W.heap.size W w6) := BX; clear LB; have LB : Hid (W.heap.size ≤ w6.heap.size) := BX.size; clear BX bb'; clear b6 r6 v6 M5 R3 V3 P3
          refine hK.out _ _ (HS.out _ (BW.out)) (fun hHeld2 => ?_)
          clear hK K hHeld
          have hHeld := hHeld2
          clear hHeld2
          try simp only [Act.put, List.setIfInBounds_toArray, List.set_cons_zero, List.set_cons_succ]
          refine wpAnyH_ready (rs := [8]) (by kernel_rfl) (by simp) ?_
          refine AllReadyH.cons rfl (fun K hK => ?_) AllReadyH.nil
          go_simp
          refine hK.out _ _ (HS.out _ (below_set6 BW.out LX.out _ _ _ _ _ _)) (fun hHeld2 => ?_)
          clear hK K hHeld hHeld2
          try simp only [Act.put, List.setIfInBounds_toArray, List.set_cons_zero, List.set_cons_succ]
          refine wpAnyH_done (by kernel_rfl) ?_ _
          exact ⟨rfl, _, h6, _, _, _, _, _, _, _, _, _, _, _, _, _, _, _, _, _, _, rfl, (finB h6 BW.out MX.out LX.out).1, (finB h6 BW.out MX.out LX.out).2, R6.out, V6.out, LX.out⟩
        refine AllReadyH.cons rfl (fun K hK => ?_) AllReadyH.nil
        go_simp
        refine hK.out _ _ (HS.out _ (Below.up BW.out (Nat.le_refl _) (below_one _ _))) (fun hHeld2 => ?_)
        clear hK K hHeld
        have hHeld := hHeld2
        clear hHeld2
        try simp only [Act.put, List.setIfInBounds_toArray, List.set_cons_zero, List.set_cons_succ]
        refine wpAnyH_ready (rs := [3]) (by kernel_rfl) (by simp) ?_
        refine AllReadyH.cons rfl (fun K hK => ?_) AllReadyH.nil
        go_simp
        go_at_call 38; refine Calls.mono (refSum_any _ _ 6 1 6 1 rL (one 1) _ (by omega) (by omega) (by omega) (by omega) (AtK.below AP.out (below_one _ _)) (AtK.below ML.out (below_one _ _)) rL_rg (one_rg ⟨by decide, by rw [B64_eq]; decide⟩ 1) (by omega) (by omega)) ?_; rintro e w3 ⟨v3, rfl, b3, p3, n3, c3, h3, rfl, q1, q2, q3, a3, r3, nm3, v3⟩; have bb' := (box1 b3).1; have MX : Hid _ := (box1 b3).2; have LX : Hid (W.heap.size ≤ w2.heap.size) := (by exact LB.out); clear ML; have A3 : Hid (At w3 p3 n3 h3) := a3; have R3 : Hid _ := r3; have V3 : Hid _ := v3; have P3 : 0 < n3 := nm_pos v3; have BX : Below W.heap.size W w3 := Below.up BW.out (Nat.le_refl _) bb'; clear BW; have BW : Hid (Below W.heap.size W w3) := BX; clear LB; have LB : Hid (W.heap.size ≤ w3.heap.size) := BX.size; clear BX bb'; clear b3 a3 r3 v3 nm3 AP
        refine hK.out _ _ (HS.out _ (BW.out)) (fun hHeld2 => ?_)
        clear hK K hHeld
        have hHeld := hHeld2
        clear hHeld2
        try simp only [Act.put, List.setIfInBounds_toArray, List.set_cons_zero, List.set_cons_succ]
        refine wpAnyH_ready (rs := [4]) (by kernel_rfl) (by simp) ?_
        refine AllReadyH.cons rfl (fun K hK => ?_) AllReadyH.nil
        go_simp
        go_at_call 52; refine Calls.mono (half_any p3 n3 c3 h3 _ P3 (by omega) q1 (A3.out) R3.out) ?_; rintro e w4 ⟨k4, rfl, b4, m4⟩; have bb' := b4; have MX3 : Hid _ := MutK.below MX.out bb' (cell_lt (MutK.cells6 MX.out).1); clear MX; have MX : Hid _ := MX3.out; clear MX3; have M4 : Hid (At w4 (some ⟨k4, 0, none⟩) n3 (hv h3 n3)) := m4.at; have BX : Below W.heap.size W w4 := Below.up BW.out (Nat.le_refl _) bb'; clear BW; have BW : Hid (Below W.heap.size W w4) := BX; clear LB; have LB : Hid (W.heap.size ≤ w4.heap.size) := BX.size; clear BX bb'; clear b4 m4 A3
        refine hK.out _ _ (HS.out _ (BW.out)) (fun hHeld2 => ?_)
        clear hK K hHeld
        have hHeld := hHeld2
        clear hHeld2
        try simp only [Act.put, List.setIfInBounds_toArray, List.set_cons_zero, List.set_cons_succ]
        refine wpAnyH_ready (rs := [5]) (by kernel_rfl) (by simp) ?_
        refine AllReadyH.cons rfl (fun K hK => ?_) AllReadyH.nil
        go_simp
        go_at_call 52; refine Calls.mono (half_any (some ⟨k4, 0, none⟩) n3 n3 (hv h3 n3) _ P3 (by omega) (by omega) (M4.out) (hv_rg R3.out)) ?_; rintro e w5 ⟨k5, rfl, b5, m5⟩; have bb' := b5; have MX3 : Hid _ := MutK.below MX.out bb' (cell_lt (MutK.cells6 MX.out).1); clear MX; have MX : Hid _ := MX3.out; clear MX3; have M5 : Hid (At w5 (some ⟨k5, 0, none⟩) n3 (hv (hv h3 n3) n3)) := m5.at; have BX : Below W.heap.size W w5 := Below.up BW.out (Nat.le_refl _) bb'; clear BW; have BW : Hid (Below W.heap.size W w5) := BX; clear LB; have LB : Hid (W.heap.size ≤ w5.heap.size) := BX.size; clear BX bb'; clear b5 m5 M4
        refine hK.out _ _ (HS.out _ (BW.out)) (fun hHeld2 => ?_)
        clear hK K hHeld
        have hHeld := hHeld2
        clear hHeld2
        try simp only [Act.put, List.setIfInBounds_toArray, List.set_cons_zero, List.set_cons_succ]
        refine wpAnyH_ready (rs := [6]) (by kernel_rfl) (by simp) ?_
        refine AllReadyH.cons rfl (fun K hK => ?_) AllReadyH.nil
        go_simp
        go_at_call 32; refine Calls.mono (KP.out (some ⟨k5, 0, none⟩) n3 n3 (hv (hv h3 n3) n3) SE _ RF.out LF.out (by omega) (M5.out) (hv_rg (hv_rg R3.out)) (by rw [hv_val P3, hv_val P3, V3.out, rL_val, val_one]; exact SE_val)) ?_; rintro e w6 ⟨v6, rfl, ⟨h6, rfl, r6, v6⟩, b6⟩; have bb' := b6; have MX3 : Hid _ := MutK.below MX.out bb' (cell_lt (MutK.cells6 MX.out).1); clear MX; have MX : Hid _ := MX3.out; clear MX3; have R6 : Hid (Rg h6 6) := r6; have V6 : Hid (val h6 6 = sq (val f 6)) := v6; obtain ⟨m0, m1, m2, m3, m4, m5⟩ := MutK.cells6 MX.out; obtain ⟨n0, n1, n2, n3, n4, n5⟩ := MutK.free6 MX.out; have BX : Below W.heap.size W w6 := Below.up BW.out (Nat.le_refl _) bb'; clear BW; have BW : Hid (Below W.heap.size W w6) := BX; clear LB; have LB : Hid (W.heap.size ≤ w6.heap.size) := BX.size; clear BX bb'; clear b6 r6 v6 M5 R3 V3 P3
        refine hK.out _ _ (HS.out _ (BW.out)) (fun hHeld2 => ?_)
        clear hK K hHeld
        have hHeld := hHeld2
        clear hHeld2
        try simp only [Act.put, List.setIfInBounds_toArray, List.set_cons_zero, List.set_cons_succ]
        refine wpAnyH_ready (rs := [8]) (by kernel_rfl) (by simp) ?_
        refine AllReadyH.cons rfl (fun K hK => ?_) AllReadyH.nil
        go_simp
        refine hK.out _ _ (HS.out _ (below_set6 BW.out LX.out _ _ _ _ _ _)) (fun hHeld2 => ?_)
        clear hK K hHeld hHeld2
        try simp only [Act.put, List.setIfInBounds_toArray, List.set_cons_zero, List.set_cons_succ]
        refine wpAnyH_done (by kernel_rfl) ?_ _
        exact ⟨rfl, _, h6, _, _, _, _, _, _, _, _, _, _, _, _, _, _, _, _, _, _, rfl, (finB h6 BW.out MX.out LX.out).1, (finB h6 BW.out MX.out LX.out).2, R6.out, V6.out, LX.out⟩
      refine AllReadyH.cons rfl (fun K hK => ?_) AllReadyH.nil
      go_simp
      refine hK.out _ _ (HS.out _ (Below.drew (below_two _ _ _))) (fun hHeld2 => ?_)
      clear hK K hHeld
      have hHeld := hHeld2
      clear hHeld2
      try simp only [Act.put, List.setIfInBounds_toArray, List.set_cons_zero, List.set_cons_succ]
      refine wpAnyH_ready (rs := [1]) (by kernel_rfl) (by simp) ?_
      refine AllReadyH.cons rfl (fun K hK => ?_) AllReadyH.nil
      go_simp
      go_at_call 26; refine Calls.mono (refP_new _) ?_; rintro e w2 ⟨k2, rfl, b2, a2⟩; have bb' := (litbox (below_drew b2)).1; have ML : Hid _ := (litbox (below_drew b2)).2.1; have MX : Hid _ := (litbox (below_drew b2)).2.2; have LX : Hid (W.heap.size ≤ W.heap.size + 1) := Nat.le_succ_of_le LB.out; have AP : Hid (At w2 (some ⟨k2, 0, none⟩) 6 rL) := a2; have BX : Below W.heap.size W w2 := Below.up BW.out (Nat.le_refl _) bb'; clear BW; have BW : Hid (Below W.heap.size W w2) := BX; clear LB; have LB : Hid (W.heap.size ≤ w2.heap.size) := BX.size; clear BX bb'; clear b2 a2
      refine hK.out _ _ (HS.out _ (BW.out)) (fun hHeld2 => ?_)
      clear hK K hHeld
      have hHeld := hHeld2
      clear hHeld2
      try simp only [Act.put, List.setIfInBounds_toArray, List.set_cons_zero, List.set_cons_succ]
      refine wpAnyH_ready (rs := [3]) (by kernel_rfl) (by simp) ?_
      refine AllReadyH.cons rfl (fun K hK => ?_) AllReadyH.nil
      go_simp
      go_at_call 38; refine Calls.mono (refSum_any _ _ 6 1 6 1 rL (one 1) _ (by omega) (by omega) (by omega) (by omega) (AP.out) (ML.out) rL_rg (one_rg ⟨by decide, by rw [B64_eq]; decide⟩ 1) (by omega) (by omega)) ?_; rintro e w3 ⟨v3, rfl, b3, p3, n3, c3, h3, rfl, q1, q2, q3, a3, r3, nm3, v3⟩; have bb' := b3; have MX3 : Hid _ := MutK.below MX.out bb' (cell_lt (MutK.cells6 MX.out).1); clear MX; have MX : Hid _ := MX3.out; clear MX3; clear ML; have A3 : Hid (At w3 p3 n3 h3) := a3; have R3 : Hid _ := r3; have V3 : Hid _ := v3; have P3 : 0 < n3 := nm_pos v3; have BX : Below W.heap.size W w3 := Below.up BW.out (Nat.le_refl _) bb'; clear BW; have BW : Hid (Below W.heap.size W w3) := BX; clear LB; have LB : Hid (W.heap.size ≤ w3.heap.size) := BX.size; clear BX bb'; clear b3 a3 r3 v3 nm3 AP
      refine hK.out _ _ (HS.out _ (BW.out)) (fun hHeld2 => ?_)
      clear hK K hHeld
      have hHeld := hHeld2
      clear hHeld2
      try simp only [Act.put, List.setIfInBounds_toArray, List.set_cons_zero, List.set_cons_succ]
      refine wpAnyH_ready (rs := [4]) (by kernel_rfl) (by simp) ?_
      refine AllReadyH.cons rfl (fun K hK => ?_) AllReadyH.nil
      go_simp
      go_at_call 52; refine Calls.mono (half_any p3 n3 c3 h3 _ P3 (by omega) q1 (A3.out) R3.out) ?_; rintro e w4 ⟨k4, rfl, b4, m4⟩; have bb' := b4; have MX3 : Hid _ := MutK.below MX.out bb' (cell_lt (MutK.cells6 MX.out).1); clear MX; have MX : Hid _ := MX3.out; clear MX3; have M4 : Hid (At w4 (some ⟨k4, 0, none⟩) n3 (hv h3 n3)) := m4.at; have BX : Below W.heap.size W w4 := Below.up BW.out (Nat.le_refl _) bb'; clear BW; have BW : Hid (Below W.heap.size W w4) := BX; clear LB; have LB : Hid (W.heap.size ≤ w4.heap.size) := BX.size; clear BX bb'; clear b4 m4 A3
      refine hK.out _ _ (HS.out _ (BW.out)) (fun hHeld2 => ?_)
      clear hK K hHeld
      have hHeld := hHeld2
      clear hHeld2
      try simp only [Act.put, List.setIfInBounds_toArray, List.set_cons_zero, List.set_cons_succ]
      refine wpAnyH_ready (rs := [5]) (by kernel_rfl) (by simp) ?_
      refine AllReadyH.cons rfl (fun K hK => ?_) AllReadyH.nil
      go_simp
      go_at_call 52; refine Calls.mono (half_any (some ⟨k4, 0, none⟩) n3 n3 (hv h3 n3) _ P3 (by omega) (by omega) (M4.out) (hv_rg R3.out)) ?_; rintro e w5 ⟨k5, rfl, b5, m5⟩; have bb' := b5; have MX3 : Hid _ := MutK.below MX.out bb' (cell_lt (MutK.cells6 MX.out).1); clear MX; have MX : Hid _ := MX3.out; clear MX3; have M5 : Hid (At w5 (some ⟨k5, 0, none⟩) n3 (hv (hv h3 n3) n3)) := m5.at; have BX : Below W.heap.size W w5 := Below.up BW.out (Nat.le_refl _) bb'; clear BW; have BW : Hid (Below W.heap.size W w5) := BX; clear LB; have LB : Hid (W.heap.size ≤ w5.heap.size) := BX.size; clear BX bb'; clear b5 m5 M4
      refine hK.out _ _ (HS.out _ (BW.out)) (fun hHeld2 => ?_)
      clear hK K hHeld
      have hHeld := hHeld2
      clear hHeld2
      try simp only [Act.put, List.setIfInBounds_toArray, List.set_cons_zero, List.set_cons_succ]
      refine wpAnyH_ready (rs := [6]) (by kernel_rfl) (by simp) ?_
      refine AllReadyH.cons rfl (fun K hK => ?_) AllReadyH.nil
      go_simp
      go_at_call 32; refine Calls.mono (KP.out (some ⟨k5, 0, none⟩) n3 n3 (hv (hv h3 n3) n3) SE _ RF.out LF.out (by omega) (M5.out) (hv_rg (hv_rg R3.out)) (by rw [hv_val P3, hv_val P3, V3.out, rL_val, val_one]; exact SE_val)) ?_; rintro e w6 ⟨v6, rfl, ⟨h6, rfl, r6, v6⟩, b6⟩; have bb' := b6; have MX3 : Hid _ := MutK.below MX.out bb' (cell_lt (MutK.cells6 MX.out).1); clear MX; have MX : Hid _ := MX3.out; clear MX3; have R6 : Hid (Rg h6 6) := r6; have V6 : Hid (val h6 6 = sq (val f 6)) := v6; obtain ⟨m0, m1, m2, m3, m4, m5⟩ := MutK.cells6 MX.out; obtain ⟨n0, n1, n2, n3, n4, n5⟩ := MutK.free6 MX.out; have BX : Below W.heap.size W w6 := Below.up BW.out (Nat.le_refl _) bb'; clear BW; have BW : Hid (Below W.heap.size W w6) := BX; clear LB; have LB : Hid (W.heap.size ≤ w6.heap.size) := BX.size; clear BX bb'; clear b6 r6 v6 M5 R3 V3 P3
      refine hK.out _ _ (HS.out _ (BW.out)) (fun hHeld2 => ?_)
      clear hK K hHeld
      have hHeld := hHeld2
      clear hHeld2
      try simp only [Act.put, List.setIfInBounds_toArray, List.set_cons_zero, List.set_cons_succ]
      refine wpAnyH_ready (rs := [8]) (by kernel_rfl) (by simp) ?_
      refine AllReadyH.cons rfl (fun K hK => ?_) AllReadyH.nil
      go_simp
      refine hK.out _ _ (HS.out _ (below_set6 BW.out LX.out _ _ _ _ _ _)) (fun hHeld2 => ?_)
      clear hK K hHeld hHeld2
      try simp only [Act.put, List.setIfInBounds_toArray, List.set_cons_zero, List.set_cons_succ]
      refine wpAnyH_done (by kernel_rfl) ?_ _
      exact ⟨rfl, _, h6, _, _, _, _, _, _, _, _, _, _, _, _, _, _, _, _, _, _, rfl, (finB h6 BW.out MX.out LX.out).1, (finB h6 BW.out MX.out LX.out).2, R6.out, V6.out, LX.out⟩
    refine AllReadyH.cons rfl (fun K hK => ?_) AllReadyH.nil
    go_simp
    refine hK.out _ _ (HS.out _ (Below.drew (below_one _ _))) (fun hHeld2 => ?_)
    clear hK K hHeld
    have hHeld := hHeld2
    clear hHeld2
    try simp only [Act.put, List.setIfInBounds_toArray, List.set_cons_zero, List.set_cons_succ]
    refine wpAnyH_ready (rs := [1, 2]) (by kernel_rfl) (by simp) ?_
    refine AllReadyH.cons rfl (fun K hK => ?_) ?_
    · go_simp
      go_at_call 26; refine Calls.mono (refP_new _) ?_; rintro e w2 ⟨k2, rfl, b2, a2⟩; have bb' := (box1 (below_drew b2)).1; have MX : Hid _ := (box1 (below_drew b2)).2; have LX : Hid (W.heap.size ≤ W.heap.size) := (by exact LB.out); have AP : Hid (At w2 (some ⟨k2, 0, none⟩) 6 rL) := a2; have BX : Below W.heap.size W w2 := Below.up BW.out (Nat.le_refl _) bb'; clear BW; have BW : Hid (Below W.heap.size W w2) := BX; clear LB; have LB : Hid (W.heap.size ≤ w2.heap.size) := BX.size; clear BX bb'; clear b2 a2
      refine hK.out _ _ (HS.out _ (BW.out)) (fun hHeld2 => ?_)
      clear hK K hHeld
      have hHeld := hHeld2
      clear hHeld2
      try simp only [Act.put, List.setIfInBounds_toArray, List.set_cons_zero, List.set_cons_succ]
      refine wpAnyH_ready (rs := [2]) (by kernel_rfl) (by simp) ?_
      refine AllReadyH.cons rfl (fun K hK => ?_) AllReadyH.nil
      go_simp
      refine hK.out _ _ (HS.out _ (Below.up BW.out (Nat.le_refl _) (below_one _ _))) (fun hHeld2 => ?_)
      clear hK K hHeld
      have hHeld := hHeld2
      clear hHeld2
      try simp only [Act.put, List.setIfInBounds_toArray, List.set_cons_zero, List.set_cons_succ]
      refine wpAnyH_ready (rs := [3]) (by kernel_rfl) (by simp) ?_
      refine AllReadyH.cons rfl (fun K hK => ?_) AllReadyH.nil
      go_simp
      go_at_call 38; refine Calls.mono (refSum_any _ _ 6 1 6 1 rL (one 1) _ (by omega) (by omega) (by omega) (by omega) (AtK.below AP.out (below_one _ _)) (at_one _ _ _) rL_rg (one_rg ⟨by decide, by rw [B64_eq]; decide⟩ 1) (by omega) (by omega)) ?_; rintro e w3 ⟨v3, rfl, b3, p3, n3, c3, h3, rfl, q1, q2, q3, a3, r3, nm3, v3⟩; have bb' := (lit1 b3).1; have MX3 : Hid _ := MutK.below MX.out bb' (cell_lt (MutK.cells6 MX.out).1); clear MX; have MX : Hid _ := MX3.out; clear MX3; have A3 : Hid (At w3 p3 n3 h3) := a3; have R3 : Hid _ := r3; have V3 : Hid _ := v3; have P3 : 0 < n3 := nm_pos v3; have BX : Below W.heap.size W w3 := Below.up BW.out (Nat.le_refl _) bb'; clear BW; have BW : Hid (Below W.heap.size W w3) := BX; clear LB; have LB : Hid (W.heap.size ≤ w3.heap.size) := BX.size; clear BX bb'; clear b3 a3 r3 v3 nm3 AP
      refine hK.out _ _ (HS.out _ (BW.out)) (fun hHeld2 => ?_)
      clear hK K hHeld
      have hHeld := hHeld2
      clear hHeld2
      try simp only [Act.put, List.setIfInBounds_toArray, List.set_cons_zero, List.set_cons_succ]
      refine wpAnyH_ready (rs := [4]) (by kernel_rfl) (by simp) ?_
      refine AllReadyH.cons rfl (fun K hK => ?_) AllReadyH.nil
      go_simp
      go_at_call 52; refine Calls.mono (half_any p3 n3 c3 h3 _ P3 (by omega) q1 (A3.out) R3.out) ?_; rintro e w4 ⟨k4, rfl, b4, m4⟩; have bb' := b4; have MX3 : Hid _ := MutK.below MX.out bb' (cell_lt (MutK.cells6 MX.out).1); clear MX; have MX : Hid _ := MX3.out; clear MX3; have M4 : Hid (At w4 (some ⟨k4, 0, none⟩) n3 (hv h3 n3)) := m4.at; have BX : Below W.heap.size W w4 := Below.up BW.out (Nat.le_refl _) bb'; clear BW; have BW : Hid (Below W.heap.size W w4) := BX; clear LB; have LB : Hid (W.heap.size ≤ w4.heap.size) := BX.size; clear BX bb'; clear b4 m4 A3
      refine hK.out _ _ (HS.out _ (BW.out)) (fun hHeld2 => ?_)
      clear hK K hHeld
      have hHeld := hHeld2
      clear hHeld2
      try simp only [Act.put, List.setIfInBounds_toArray, List.set_cons_zero, List.set_cons_succ]
      refine wpAnyH_ready (rs := [5]) (by kernel_rfl) (by simp) ?_
      refine AllReadyH.cons rfl (fun K hK => ?_) AllReadyH.nil
      go_simp
      go_at_call 52; refine Calls.mono (half_any (some ⟨k4, 0, none⟩) n3 n3 (hv h3 n3) _ P3 (by omega) (by omega) (M4.out) (hv_rg R3.out)) ?_; rintro e w5 ⟨k5, rfl, b5, m5⟩; have bb' := b5; have MX3 : Hid _ := MutK.below MX.out bb' (cell_lt (MutK.cells6 MX.out).1); clear MX; have MX : Hid _ := MX3.out; clear MX3; have M5 : Hid (At w5 (some ⟨k5, 0, none⟩) n3 (hv (hv h3 n3) n3)) := m5.at; have BX : Below W.heap.size W w5 := Below.up BW.out (Nat.le_refl _) bb'; clear BW; have BW : Hid (Below W.heap.size W w5) := BX; clear LB; have LB : Hid (W.heap.size ≤ w5.heap.size) := BX.size; clear BX bb'; clear b5 m5 M4
      refine hK.out _ _ (HS.out _ (BW.out)) (fun hHeld2 => ?_)
      clear hK K hHeld
      have hHeld := hHeld2
      clear hHeld2
      try simp only [Act.put, List.setIfInBounds_toArray, List.set_cons_zero, List.set_cons_succ]
      refine wpAnyH_ready (rs := [6]) (by kernel_rfl) (by simp) ?_
      refine AllReadyH.cons rfl (fun K hK => ?_) AllReadyH.nil
      go_simp
      go_at_call 32; refine Calls.mono (KP.out (some ⟨k5, 0, none⟩) n3 n3 (hv (hv h3 n3) n3) SE _ RF.out LF.out (by omega) (M5.out) (hv_rg (hv_rg R3.out)) (by rw [hv_val P3, hv_val P3, V3.out, rL_val, val_one]; exact SE_val)) ?_; rintro e w6 ⟨v6, rfl, ⟨h6, rfl, r6, v6⟩, b6⟩; have bb' := b6; have MX3 : Hid _ := MutK.below MX.out bb' (cell_lt (MutK.cells6 MX.out).1); clear MX; have MX : Hid _ := MX3.out; clear MX3; have R6 : Hid (Rg h6 6) := r6; have V6 : Hid (val h6 6 = sq (val f 6)) := v6; obtain ⟨m0, m1, m2, m3, m4, m5⟩ := MutK.cells6 MX.out; obtain ⟨n0, n1, n2, n3, n4, n5⟩ := MutK.free6 MX.out; have BX : Below W.heap.size W w6 := Below.up BW.out (Nat.le_refl _) bb'; clear BW; have BW : Hid (Below W.heap.size W w6) := BX; clear LB; have LB : Hid (W.heap.size ≤ w6.heap.size) := BX.size; clear BX bb'; clear b6 r6 v6 M5 R3 V3 P3
      refine hK.out _ _ (HS.out _ (BW.out)) (fun hHeld2 => ?_)
      clear hK K hHeld
      have hHeld := hHeld2
      clear hHeld2
      try simp only [Act.put, List.setIfInBounds_toArray, List.set_cons_zero, List.set_cons_succ]
      refine wpAnyH_ready (rs := [8]) (by kernel_rfl) (by simp) ?_
      refine AllReadyH.cons rfl (fun K hK => ?_) AllReadyH.nil
      go_simp
      refine hK.out _ _ (HS.out _ (below_set6 BW.out LX.out _ _ _ _ _ _)) (fun hHeld2 => ?_)
      clear hK K hHeld hHeld2
      try simp only [Act.put, List.setIfInBounds_toArray, List.set_cons_zero, List.set_cons_succ]
      refine wpAnyH_done (by kernel_rfl) ?_ _
      exact ⟨rfl, _, h6, _, _, _, _, _, _, _, _, _, _, _, _, _, _, _, _, _, _, rfl, (finB h6 BW.out MX.out LX.out).1, (finB h6 BW.out MX.out LX.out).2, R6.out, V6.out, LX.out⟩
    refine AllReadyH.cons rfl (fun K hK => ?_) AllReadyH.nil
    go_simp
    refine hK.out _ _ (HS.out _ (Below.drew (below_two _ _ _))) (fun hHeld2 => ?_)
    clear hK K hHeld
    have hHeld := hHeld2
    clear hHeld2
    try simp only [Act.put, List.setIfInBounds_toArray, List.set_cons_zero, List.set_cons_succ]
    refine wpAnyH_ready (rs := [1]) (by kernel_rfl) (by simp) ?_
    refine AllReadyH.cons rfl (fun K hK => ?_) AllReadyH.nil
    go_simp
    go_at_call 26; refine Calls.mono (refP_new _) ?_; rintro e w2 ⟨k2, rfl, b2, a2⟩; have bb' := (boxlit (below_drew b2)).1; have ML : Hid _ := (boxlit (below_drew b2)).2.1; have MX : Hid _ := (boxlit (below_drew b2)).2.2; have LX : Hid (W.heap.size ≤ W.heap.size) := (by exact LB.out); have AP : Hid (At w2 (some ⟨k2, 0, none⟩) 6 rL) := a2; have BX : Below W.heap.size W w2 := Below.up BW.out (Nat.le_refl _) bb'; clear BW; have BW : Hid (Below W.heap.size W w2) := BX; clear LB; have LB : Hid (W.heap.size ≤ w2.heap.size) := BX.size; clear BX bb'; clear b2 a2
    refine hK.out _ _ (HS.out _ (BW.out)) (fun hHeld2 => ?_)
    clear hK K hHeld
    have hHeld := hHeld2
    clear hHeld2
    try simp only [Act.put, List.setIfInBounds_toArray, List.set_cons_zero, List.set_cons_succ]
    refine wpAnyH_ready (rs := [3]) (by kernel_rfl) (by simp) ?_
    refine AllReadyH.cons rfl (fun K hK => ?_) AllReadyH.nil
    go_simp
    go_at_call 38; refine Calls.mono (refSum_any _ _ 6 1 6 1 rL (one 1) _ (by omega) (by omega) (by omega) (by omega) (AP.out) (ML.out) rL_rg (one_rg ⟨by decide, by rw [B64_eq]; decide⟩ 1) (by omega) (by omega)) ?_; rintro e w3 ⟨v3, rfl, b3, p3, n3, c3, h3, rfl, q1, q2, q3, a3, r3, nm3, v3⟩; have bb' := b3; have MX3 : Hid _ := MutK.below MX.out bb' (cell_lt (MutK.cells6 MX.out).1); clear MX; have MX : Hid _ := MX3.out; clear MX3; clear ML; have A3 : Hid (At w3 p3 n3 h3) := a3; have R3 : Hid _ := r3; have V3 : Hid _ := v3; have P3 : 0 < n3 := nm_pos v3; have BX : Below W.heap.size W w3 := Below.up BW.out (Nat.le_refl _) bb'; clear BW; have BW : Hid (Below W.heap.size W w3) := BX; clear LB; have LB : Hid (W.heap.size ≤ w3.heap.size) := BX.size; clear BX bb'; clear b3 a3 r3 v3 nm3 AP
    refine hK.out _ _ (HS.out _ (BW.out)) (fun hHeld2 => ?_)
    clear hK K hHeld
    have hHeld := hHeld2
    clear hHeld2
    try simp only [Act.put, List.setIfInBounds_toArray, List.set_cons_zero, List.set_cons_succ]
    refine wpAnyH_ready (rs := [4]) (by kernel_rfl) (by simp) ?_
    refine AllReadyH.cons rfl (fun K hK => ?_) AllReadyH.nil
    go_simp
    go_at_call 52; refine Calls.mono (half_any p3 n3 c3 h3 _ P3 (by omega) q1 (A3.out) R3.out) ?_; rintro e w4 ⟨k4, rfl, b4, m4⟩; have bb' := b4; have MX3 : Hid _ := MutK.below MX.out bb' (cell_lt (MutK.cells6 MX.out).1); clear MX; have MX : Hid _ := MX3.out; clear MX3; have M4 : Hid (At w4 (some ⟨k4, 0, none⟩) n3 (hv h3 n3)) := m4.at; have BX : Below W.heap.size W w4 := Below.up BW.out (Nat.le_refl _) bb'; clear BW; have BW : Hid (Below W.heap.size W w4) := BX; clear LB; have LB : Hid (W.heap.size ≤ w4.heap.size) := BX.size; clear BX bb'; clear b4 m4 A3
    refine hK.out _ _ (HS.out _ (BW.out)) (fun hHeld2 => ?_)
    clear hK K hHeld
    have hHeld := hHeld2
    clear hHeld2
    try simp only [Act.put, List.setIfInBounds_toArray, List.set_cons_zero, List.set_cons_succ]
    refine wpAnyH_ready (rs := [5]) (by kernel_rfl) (by simp) ?_
    refine AllReadyH.cons rfl (fun K hK => ?_) AllReadyH.nil
    go_simp
    go_at_call 52; refine Calls.mono (half_any (some ⟨k4, 0, none⟩) n3 n3 (hv h3 n3) _ P3 (by omega) (by omega) (M4.out) (hv_rg R3.out)) ?_; rintro e w5 ⟨k5, rfl, b5, m5⟩; have bb' := b5; have MX3 : Hid _ := MutK.below MX.out bb' (cell_lt (MutK.cells6 MX.out).1); clear MX; have MX : Hid _ := MX3.out; clear MX3; have M5 : Hid (At w5 (some ⟨k5, 0, none⟩) n3 (hv (hv h3 n3) n3)) := m5.at; have BX : Below W.heap.size W w5 := Below.up BW.out (Nat.le_refl _) bb'; clear BW; have BW : Hid (Below W.heap.size W w5) := BX; clear LB; have LB : Hid (W.heap.size ≤ w5.heap.size) := BX.size; clear BX bb'; clear b5 m5 M4
    refine hK.out _ _ (HS.out _ (BW.out)) (fun hHeld2 => ?_)
    clear hK K hHeld
    have hHeld := hHeld2
    clear hHeld2
    try simp only [Act.put, List.setIfInBounds_toArray, List.set_cons_zero, List.set_cons_succ]
    refine wpAnyH_ready (rs := [6]) (by kernel_rfl) (by simp) ?_
    refine AllReadyH.cons rfl (fun K hK => ?_) AllReadyH.nil
    go_simp
    go_at_call 32; refine Calls.mono (KP.out (some ⟨k5, 0, none⟩) n3 n3 (hv (hv h3 n3) n3) SE _ RF.out LF.out (by omega) (M5.out) (hv_rg (hv_rg R3.out)) (by rw [hv_val P3, hv_val P3, V3.out, rL_val, val_one]; exact SE_val)) ?_; rintro e w6 ⟨v6, rfl, ⟨h6, rfl, r6, v6⟩, b6⟩; have bb' := b6; have MX3 : Hid _ := MutK.below MX.out bb' (cell_lt (MutK.cells6 MX.out).1); clear MX; have MX : Hid _ := MX3.out; clear MX3; have R6 : Hid (Rg h6 6) := r6; have V6 : Hid (val h6 6 = sq (val f 6)) := v6; obtain ⟨m0, m1, m2, m3, m4, m5⟩ := MutK.cells6 MX.out; obtain ⟨n0, n1, n2, n3, n4, n5⟩ := MutK.free6 MX.out; have BX : Below W.heap.size W w6 := Below.up BW.out (Nat.le_refl _) bb'; clear BW; have BW : Hid (Below W.heap.size W w6) := BX; clear LB; have LB : Hid (W.heap.size ≤ w6.heap.size) := BX.size; clear BX bb'; clear b6 r6 v6 M5 R3 V3 P3
    refine hK.out _ _ (HS.out _ (BW.out)) (fun hHeld2 => ?_)
    clear hK K hHeld
    have hHeld := hHeld2
    clear hHeld2
    try simp only [Act.put, List.setIfInBounds_toArray, List.set_cons_zero, List.set_cons_succ]
    refine wpAnyH_ready (rs := [8]) (by kernel_rfl) (by simp) ?_
    refine AllReadyH.cons rfl (fun K hK => ?_) AllReadyH.nil
    go_simp
    refine hK.out _ _ (HS.out _ (below_set6 BW.out LX.out _ _ _ _ _ _)) (fun hHeld2 => ?_)
    clear hK K hHeld hHeld2
    try simp only [Act.put, List.setIfInBounds_toArray, List.set_cons_zero, List.set_cons_succ]
    refine wpAnyH_done (by kernel_rfl) ?_ _
    exact ⟨rfl, _, h6, _, _, _, _, _, _, _, _, _, _, _, _, _, _, _, _, _, _, rfl, (finB h6 BW.out MX.out LX.out).1, (finB h6 BW.out MX.out LX.out).2, R6.out, V6.out, LX.out⟩
theorem sqrtP_yes (f : Nat → Int) (w : World) (rf : Rg f 6) (lf : val f 6 < RI) (hn : sq (val f 6) * sq (val f 6) % RI = val f 6) : Calls Tryd.prog 30 #[.agg #[.int .u64 (f 0), .int .u64 (f 1), .int .u64 (f 2), .int .u64 (f 3), .int .u64 (f 4), .int .u64 (f 5)]] w fun e w' => ∃ h : Nat → Int, e = .returned (.tuple #[.agg #[.int .u64 (h 0), .int .u64 (h 1), .int .u64 (h 2), .int .u64 (h 3), .int .u64 (h 4), .int .u64 (h 5)], .bool true]) ∧ Rg h 6 ∧ val h 6 = lesser (sq (val f 6)) ∧ Below w.heap.size w w' := sqrtP_at f w rf lf true _ (Or.inl ⟨hn, rfl, rfl⟩)
theorem sqrtP_no (f : Nat → Int) (w : World) (rf : Rg f 6) (lf : val f 6 < RI) (hn : sq (val f 6) * sq (val f 6) % RI ≠ val f 6) : Calls Tryd.prog 30 #[.agg #[.int .u64 (f 0), .int .u64 (f 1), .int .u64 (f 2), .int .u64 (f 3), .int .u64 (f 4), .int .u64 (f 5)]] w fun e w' => ∃ h : Nat → Int, e = .returned (.tuple #[.agg #[.int .u64 (h 0), .int .u64 (h 1), .int .u64 (h 2), .int .u64 (h 3), .int .u64 (h 4), .int .u64 (h 5)], .bool false]) ∧ Rg h 6 ∧ val h 6 = 0 ∧ Below w.heap.size w w' := sqrtP_at f w rf lf false _ (Or.inr ⟨hn, rfl, rfl⟩)
end Go.Proofs.YtgdmjngajjoliaaDoor.fpn
