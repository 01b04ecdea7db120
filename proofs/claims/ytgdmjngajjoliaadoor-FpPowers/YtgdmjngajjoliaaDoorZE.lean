/- Put, Take. -/
import Derived.Test.YtgdmjngajjoliaaDoorZU
import Derived.Test.YtgdmjngajjoliaaDoorRC
import Derived.Test.YtgdmjngajjoliaaDoorWP
import Derived.Test.YtgdmjngajjoliaaDoorWQ
namespace Go.Proofs.YtgdmjngajjoliaaDoor.fpn
open Go.RowKit
attribute [local go_sem ↓] Go.wp_at_zero Go.wp_at_succ
set_option linter.unusedVariables false

theorem step_copy_lim {P : Program} {w : World} {ops : Array Oper} {o : Oper} {a : Act} {K : Act → World → Prop} {Q : Exit → Act → World → Prop} {E : Prop} (k : IntKind) (hgd : o.guard = none) (d s : Operand) (dT sT : TypeId)
    (ho : o.op = .call { callee := .builtin .copy, args := #[d, s], argTypes := #[dT, sT] }) (elem : TypeId) (hu : P.underlying dT = some (.slice elem)) (hsz : (P.info? elem).map (·.size) = some 1)
    (b off nd cd : Nat) (ps : Option Addr) (ns cs : Nat) (fd fs : Nat → Int) (hd : a.eval d = .slice (some ⟨b, off, none⟩) nd cd) (hs : a.eval s = .slice ps ns cs)
    (hm : MutK k w b off nd fd) (hat : AtK k w ps ns fs) (hle : ns ≤ nd)
    (hK : ∀ w1, Upd b off (off + ns) w w1 → MutK k w1 b off nd (mix fs fd ns) → K (a.put o.dst (goInt ns)) w1) : if Region.wanted o (yielded ops a.tmps) = true then Oper.wp P o a w K Q else E := by
  have hw : Region.wanted o (yielded ops a.tmps) = true := by simp [Region.wanted, hgd]
  rw [if_pos hw]
  have hmin : Nat.min ns nd = ns := Nat.min_eq_left hle
  by_cases h0 : ns = 0
  · subst h0
    have hrun := run_copy_none (P := P) w dT sT o.type elem (some ⟨b, off, none⟩) ps nd cd 0 cs hu hsz (by simp)
    unfold Oper.wp
    simp [execOp, ho, resolve, invoke, builtin, hd, hs, hrun, Result.andThen]
    exact hK w (Upd.refl _ _ _ _) (hm.congr fun j _ => (mix_zero _ _ _).symm)
  · obtain ⟨bs, offs, rfl, hc⟩ := hat (by omega)
    have hget : ∀ j v, ((List.range ns).map fun j => Value.int k (fs j))[j]? = some v → j < ns ∧ v = .int k (fs j) := fun j v h => by
      simp only [List.getElem?_map] at h
      by_cases hj : j < ns
      · rw [List.getElem?_range hj] at h
        simp at h
        exact ⟨hj, h.symm⟩
      · rw [List.getElem?_eq_none (by simpa using hj)] at h
        simp at h
    have hrun := run_copy_cells (P := P) w dT sT o.type elem b off nd cd ⟨bs, offs, none⟩ ns cs ((List.range ns).map fun j => Value.int k (fs j)) hu hsz (by simpa using hmin.symm)
      (fun j v h => by obtain ⟨hj, rfl⟩ := hget j v h; rw [show (⟨bs, offs, none⟩ : Addr).add j = ⟨bs, offs + j, none⟩ by unfold Addr.add; split <;> simp_all]; exact hc j hj)
      (fun j hj => by rw [(hm j (by simp at hj; omega)).1]; rfl) (fun j hj => (hm j (by simp at hj; omega)).2) (fun v hv => by simp at hv; obtain ⟨j, _, rfl⟩ := hv; rfl)
    simp only [List.length_map, List.length_range] at hrun
    unfold Oper.wp
    simp [execOp, ho, resolve, invoke, builtin, hd, hs, hrun, Result.andThen]
    have hup := setCells_upd k b fs ns off w
    refine hK _ hup fun j hj => ?_
    refine ⟨?_, by rw [hup.frozen]; exact (hm j hj).2⟩
    by_cases hlt : j < ns
    · rw [mix_lo hlt]
      have := World.cell?_setCells_in b ((List.range ns).map fun j => Value.int k (fs j)) off w (fun i hi => by rw [(hm i (by simp at hi; omega)).1]; rfl) j (by simpa using hlt)
      simpa using this
    · rw [mix_hi (by omega), hup.cell _ _ (by omega)]
      exact (hm j hj).1

theorem frPut_any (f : Nat → Int) (w : World) (rf : Rg f 6) : Calls Tryd.prog 35 #[.agg #[.int .u64 (f 0), .int .u64 (f 1), .int .u64 (f 2), .int .u64 (f 3), .int .u64 (f 4), .int .u64 (f 5)]] w fun e w' => ∃ p c, e = .returned (.slice p 48 c) ∧ AtK .u8 w' p 48 (fun j => byt f 6 (48 - 1 - j)) ∧ 48 ≤ c ∧ c ≤ 9223372036854775807 ∧ Below w.heap.size w w' := by
  have hA := mut_four w f 24
  have B1 := below_one w (.cells #[.int .u64 (f 0), .int .u64 (f 1), .int .u64 (f 2), .int .u64 (f 3), .int .u64 (f 4), .int .u64 (f 5)] 24)
  have sz1 : sz f 6 ≤ 48 := by have := sz_le8 rf; have := tl_le f 6; omega
  go_enter Tryd.func35, Tryd.ntmps35
  go_wp2_with fail
  generalize w.alloc (.cells #[.int .u64 (f 0), .int .u64 (f 1), .int .u64 (f 2), .int .u64 (f 3), .int .u64 (f 4), .int .u64 (f 5)] 24) = W at *
  refine Calls.mono (put_any (some ⟨w.heap.size, 0, none⟩) 6 6 48 f W (by omega) (by omega) hA.at rf (by omega) sz1 (by omega)) ?_
  rintro e w2 ⟨rfl, b2, -, m2⟩
  have HM : Hid _ := m2
  have HB : Hid _ := Below.up B1 (Nat.le_refl _) b2
  clear m2 b2 hA B1 sz1
  go_wp2
  go_ret
  exact ⟨_, 48, rfl, MutK.at HM.out, Nat.le_refl _, by decide, HB.out⟩

theorem frTake_short (p : Option Addr) (n cap : Nat) (w : World) (hn : n < 48) : Calls Tryd.prog 33 #[.slice p n cap] w fun e w' => ∃ h : Nat → Int, e = .returned (.tuple #[.agg #[.int .u64 (h 0), .int .u64 (h 1), .int .u64 (h 2), .int .u64 (h 3), .int .u64 (h 4), .int .u64 (h 5)], .int .i64 2]) ∧ Rg h 6 ∧ val h 6 = 0 ∧ Below w.heap.size w w' := by
  go_enter Tryd.func33, Tryd.ntmps33
  go_wp2
  refine bodyPost_ret (v := .tuple #[.agg #[.int .u64 0, .int .u64 0, .int .u64 0, .int .u64 0, .int .u64 0, .int .u64 0], .int .i64 2]) (by simp [results, Tryd.results33, go_sem]) rfl ⟨Z, rfl, Z_rg 6, val_Z 6, below_one _ _⟩
theorem frTake_long (p : Option Addr) (n cap : Nat) (w : World) (hn : 48 < n) : Calls Tryd.prog 33 #[.slice p n cap] w fun e w' => ∃ h : Nat → Int, e = .returned (.tuple #[.agg #[.int .u64 (h 0), .int .u64 (h 1), .int .u64 (h 2), .int .u64 (h 3), .int .u64 (h 4), .int .u64 (h 5)], .int .i64 8]) ∧ Rg h 6 ∧ val h 6 = 0 ∧ Below w.heap.size w w' := by
  have h0 : ¬ (n : Int) < 48 := by omega
  go_enter Tryd.func33, Tryd.ntmps33
  go_wp2
  refine bodyPost_ret (v := .tuple #[.agg #[.int .u64 0, .int .u64 0, .int .u64 0, .int .u64 0, .int .u64 0, .int .u64 0], .int .i64 8]) (by simp [results, Tryd.results33, go_sem]) rfl ⟨Z, rfl, Z_rg 6, val_Z 6, below_one _ _⟩

set_option maxHeartbeats 4000000 in
theorem frTake_big (p : Option Addr) (cap : Nat) (g : Nat → Int) (w : World) (hc32 : 48 ≤ cap) (hc : AtK .u8 w p 48 g) (hg : ∀ j, j < 48 → 0 ≤ g j ∧ g j < 256) (hl : RI ≤ bv g 48) : Calls Tryd.prog 33 #[.slice p 48 cap] w fun e w' => ∃ h : Nat → Int, e = .returned (.tuple #[.agg #[.int .u64 (h 0), .int .u64 (h 1), .int .u64 (h 2), .int .u64 (h 3), .int .u64 (h 4), .int .u64 (h 5)], .int .i64 4]) ∧ Rg h 6 ∧ val h 6 = 0 ∧ Below w.heap.size w w' := by
  obtain ⟨m1, m0⟩ := mut_two w 24 24
  have hB := below_two w (.cells #[.int .u64 0, .int .u64 0, .int .u64 0, .int .u64 0, .int .u64 0, .int .u64 0] 24) (.cells #[.int .u64 0, .int .u64 0, .int .u64 0, .int .u64 0, .int .u64 0, .int .u64 0] 24)
  have hc1 := hc.below hB
  have pb := pl_bv g 48
  have sz : w.heap.size + 1 < ((w.alloc (.cells #[.int .u64 0, .int .u64 0, .int .u64 0, .int .u64 0, .int .u64 0, .int .u64 0] 24)).alloc (.cells #[.int .u64 0, .int .u64 0, .int .u64 0, .int .u64 0, .int .u64 0, .int .u64 0] 24)).heap.size := by rw [World.size_alloc, World.size_alloc]; omega
  go_enter Tryd.func33, Tryd.ntmps33
  go_wp2_with fail
  generalize (w.alloc (.cells #[.int .u64 0, .int .u64 0, .int .u64 0, .int .u64 0, .int .u64 0, .int .u64 0] 24)).alloc (.cells #[.int .u64 0, .int .u64 0, .int .u64 0, .int .u64 0, .int .u64 0, .int .u64 0] 24) = W at *
  have b3' : Hid _ := hB
  have m1' : Hid _ := m1
  have m0' : Hid _ := m0
  have SZ : Hid _ := sz
  have HC : Hid _ := hc1
  have HG : Hid _ := hg
  have HL : Hid _ := hl
  have PB : Hid _ := pb
  clear hB m1 m0 sz hc hc1 hg hl pb
  go_region_held3 (fun x => True) (trivial)
    (first
    | (go_at_call 58; refine Calls.mono (take_any p 48 cap g _ hc32 (AtK.below HC.out (Below.refl _ _).drew) HG.out (by omega)) ?_; rintro e w2 ⟨v, rfl, b2, b, off, n2, c2, h, rfl, -, -, l1, l2, a2, r2, nm, v2⟩; have b2' := below_drew b2; have M12 : Hid _ := MutK.below m1'.out b2' SZ.out; have M02 : Hid _ := MutK.below m0'.out b2' (Nat.lt_trans (Nat.lt_succ_self _) SZ.out); have B3 : Hid _ := Below.up b3'.out (Nat.le_refl _) b2'; have A2 : Hid _ := a2.at; have R2 : Hid _ := r2; have V2 : Hid _ := v2; have l6 : n2 ≤ 6 := (by omega); have TK : Hid True := trivial; clear b2 b2' a2 r2 v2 nm l1 l2)
    | (clear TK; refine step_copy_lim .u64 (by rfl) (.tmp 13) (.tmp 15) 30 30 (by rfl) 22 Tryd.underlying30 size64 (w.heap.size + 1) 0 6 6 (some ⟨b, off, none⟩) n2 c2 Z h (by rfl) (by rfl) M12.out A2.out l6 ?_; intro w4 hu4 hm4; have HU : Hid _ := hu4; have HK4 : Hid (Mut w4 (w.heap.size + 1) 0 6 (lm h n2)) := hm4; clear hm4 hu4))
  all_goals
    have rl : Rg (lm h n2) 6 := lm_rg R2.out 6
    have vl : val (lm h n2) 6 = bv g 48 := by
      have v2 := V2.out
      have pb := PB.out
      rw [show (48 + 7) / 8 = 6 from rfl] at v2 pb
      rw [val_lm h n2 6 l6, v2, pb]
    have K : Hid _ := fun W => frMay_any (lm h n2) W rl
    rw [vl, decide_eq_false (show ¬ bv g 48 < RI by have := HL.out; omega)] at K
    have m04 := MutK.upd M02.out HU.out (by omega)
    have k4 := HK4.out
    have B4 : Hid _ := Below.trans B3.out (Upd.below HU.out (B := w.heap.size) (by omega))
    obtain ⟨x0, x1, x2, x3, x4, x5⟩ := MutK.cells6 k4
    have RL : Hid _ := rl
    have VL : Hid _ := vl
    have M04 : Hid _ := m04
    have K4 : Hid _ := k4
    generalize lm h n2 = t at *
    clear rl vl m04 k4 M02 M12 HU HK4 B3 A2 R2 V2 PB HL HG HC SZ m0' m1' b3' l6
    go_wp2_with fail
    refine Calls.mono (K.out w4) ?_
    rintro e w5 ⟨rfl, b5⟩
    have k5 := MutK.below K4.out b5 (cell_lt (MutK.cells6 K4.out).1)
    have m5 := MutK.below M04.out b5 (cell_lt (MutK.cells6 M04.out).1)
    obtain ⟨a0, a1, a2, a3, a4, a5⟩ := MutK.cells6 k5
    obtain ⟨y0, y1, y2, y3, y4, y5⟩ := MutK.cells6 m5
    obtain ⟨q0, q1, q2, q3, q4, q5⟩ := MutK.free6 m5
    have HB : Hid _ := Below.up B4.out (Nat.le_refl _) b5
    clear k5 m5 b5 x0 x1 x2 x3 x4 x5 K4 M04 B4 K
    go_wp2
    refine bodyPost_ret (v := .tuple #[.agg #[.int .u64 0, .int .u64 0, .int .u64 0, .int .u64 0, .int .u64 0, .int .u64 0], .int .i64 4]) (by simp [results, Tryd.results33, go_sem, y0, y1, y2, y3, y4, y5]) rfl ⟨Z, rfl, Z_rg 6, val_Z 6, ?_⟩
    exact below_set6 HB.out (by omega) _ _ _ _ _ _

set_option maxHeartbeats 4000000 in
theorem frTake_ok (p : Option Addr) (cap : Nat) (g : Nat → Int) (w : World) (hc32 : 48 ≤ cap) (hc : AtK .u8 w p 48 g) (hg : ∀ j, j < 48 → 0 ≤ g j ∧ g j < 256) (hl : bv g 48 < RI) : Calls Tryd.prog 33 #[.slice p 48 cap] w fun e w' => ∃ h : Nat → Int, e = .returned (.tuple #[.agg #[.int .u64 (h 0), .int .u64 (h 1), .int .u64 (h 2), .int .u64 (h 3), .int .u64 (h 4), .int .u64 (h 5)], .int .i64 0]) ∧ Rg h 6 ∧ val h 6 = bv g 48 ∧ Below w.heap.size w w' := by
  obtain ⟨m1, m0⟩ := mut_two w 24 24
  have hB := below_two w (.cells #[.int .u64 0, .int .u64 0, .int .u64 0, .int .u64 0, .int .u64 0, .int .u64 0] 24) (.cells #[.int .u64 0, .int .u64 0, .int .u64 0, .int .u64 0, .int .u64 0, .int .u64 0] 24)
  have hc1 := hc.below hB
  have pb := pl_bv g 48
  have sz : w.heap.size + 1 < ((w.alloc (.cells #[.int .u64 0, .int .u64 0, .int .u64 0, .int .u64 0, .int .u64 0, .int .u64 0] 24)).alloc (.cells #[.int .u64 0, .int .u64 0, .int .u64 0, .int .u64 0, .int .u64 0, .int .u64 0] 24)).heap.size := by rw [World.size_alloc, World.size_alloc]; omega
  go_enter Tryd.func33, Tryd.ntmps33
  go_wp2_with fail
  generalize (w.alloc (.cells #[.int .u64 0, .int .u64 0, .int .u64 0, .int .u64 0, .int .u64 0, .int .u64 0] 24)).alloc (.cells #[.int .u64 0, .int .u64 0, .int .u64 0, .int .u64 0, .int .u64 0, .int .u64 0] 24) = W at *
  have b3' : Hid _ := hB
  have m1' : Hid _ := m1
  have m0' : Hid _ := m0
  have SZ : Hid _ := sz
  have HC : Hid _ := hc1
  have HG : Hid _ := hg
  have HL : Hid _ := hl
  have PB : Hid _ := pb
  clear hB m1 m0 sz hc hc1 hg hl pb
  go_region_held3 (fun x => True) (trivial)
    (first
    | (go_at_call 58; refine Calls.mono (take_any p 48 cap g _ hc32 (AtK.below HC.out (Below.refl _ _).drew) HG.out (by omega)) ?_; rintro e w2 ⟨v, rfl, b2, b, off, n2, c2, h, rfl, -, -, l1, l2, a2, r2, nm, v2⟩; have b2' := below_drew b2; have M12 : Hid _ := MutK.below m1'.out b2' SZ.out; have M02 : Hid _ := MutK.below m0'.out b2' (Nat.lt_trans (Nat.lt_succ_self _) SZ.out); have B3 : Hid _ := Below.up b3'.out (Nat.le_refl _) b2'; have A2 : Hid _ := a2.at; have R2 : Hid _ := r2; have V2 : Hid _ := v2; have l6 : n2 ≤ 6 := (by omega); have TK : Hid True := trivial; clear b2 b2' a2 r2 v2 nm l1 l2)
    | (clear TK; refine step_copy_lim .u64 (by rfl) (.tmp 13) (.tmp 15) 30 30 (by rfl) 22 Tryd.underlying30 size64 (w.heap.size + 1) 0 6 6 (some ⟨b, off, none⟩) n2 c2 Z h (by rfl) (by rfl) M12.out A2.out l6 ?_; intro w4 hu4 hm4; have HU : Hid _ := hu4; have HK4 : Hid (Mut w4 (w.heap.size + 1) 0 6 (lm h n2)) := hm4; clear hm4 hu4))
  all_goals
    have rl : Rg (lm h n2) 6 := lm_rg R2.out 6
    have vl : val (lm h n2) 6 = bv g 48 := by
      have v2 := V2.out
      have pb := PB.out
      rw [show (48 + 7) / 8 = 6 from rfl] at v2 pb
      rw [val_lm h n2 6 l6, v2, pb]
    have K : Hid _ := fun W => frMay_any (lm h n2) W rl
    rw [vl, decide_eq_true HL.out] at K
    have m04 := MutK.upd M02.out HU.out (by omega)
    have k4 := HK4.out
    have B4 : Hid _ := Below.trans B3.out (Upd.below HU.out (B := w.heap.size) (by omega))
    obtain ⟨x0, x1, x2, x3, x4, x5⟩ := MutK.cells6 k4
    have RL : Hid _ := rl
    have VL : Hid _ := vl
    have M04 : Hid _ := m04
    have K4 : Hid _ := k4
    generalize lm h n2 = t at *
    clear rl vl m04 k4 M02 M12 HU HK4 B3 A2 R2 V2 PB HL HG HC SZ m0' m1' b3' l6
    go_wp2_with fail
    refine Calls.mono (K.out w4) ?_
    rintro e w5 ⟨rfl, b5⟩
    have k5 := MutK.below K4.out b5 (cell_lt (MutK.cells6 K4.out).1)
    have m5 := MutK.below M04.out b5 (cell_lt (MutK.cells6 M04.out).1)
    obtain ⟨a0, a1, a2, a3, a4, a5⟩ := MutK.cells6 k5
    obtain ⟨y0, y1, y2, y3, y4, y5⟩ := MutK.cells6 m5
    obtain ⟨q0, q1, q2, q3, q4, q5⟩ := MutK.free6 m5
    have HB : Hid _ := Below.up B4.out (Nat.le_refl _) b5
    clear k5 m5 b5 x0 x1 x2 x3 x4 x5 K4 M04 B4 K
    go_wp2
    refine bodyPost_ret (v := .tuple #[.agg #[.int .u64 (t 0), .int .u64 (t 1), .int .u64 (t 2), .int .u64 (t 3), .int .u64 (t 4), .int .u64 (t 5)], .int .i64 0]) (by simp [results, Tryd.results33, go_sem, y0, y1, y2, y3, y4, y5]) rfl ⟨t, rfl, RL.out, VL.out, ?_⟩
    exact below_set6 HB.out (by omega) _ _ _ _ _ _

end Go.Proofs.YtgdmjngajjoliaaDoor.fpn
