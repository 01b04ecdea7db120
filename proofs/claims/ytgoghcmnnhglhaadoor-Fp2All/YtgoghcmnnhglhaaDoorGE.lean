/- HV RF HW HX HY JA JB JC. -/
import Derived.Test.YtgoghcmnnhglhaaDoorGB
import Derived.Test.YtgoghcmnnhglhaaDoorGC
import Derived.WalkLawsBesides
/- Numbers of the base field as one type, and the value that each has. -/
namespace Go.Proofs.YtgoghcmnnhglhaaDoor.fpn
open Go.RowKit
set_option linter.unusedVariables false

instance : NeZero RN := ⟨by decide⟩
/-- Numbers modulo P. -/
abbrev F := Fin RN

/-- A number's limbs. -/
def lb (n i : Nat) : Int := ((n / 2 ^ (64 * i) % 2 ^ 64 : Nat) : Int)

theorem pw_two (n : Nat) : pw n = ((2 ^ (64 * n) : Nat) : Int) := by
  induction n with
  | zero => rfl
  | succ n ih =>
    rw [pw, ih, show 64 * (n + 1) = 64 * n + 64 by omega, Nat.pow_add, Int.natCast_mul]
    rfl

theorem lb_rg (n k : Nat) : Rg (lb n) k := fun i _ => by
  unfold lb
  have : n / 2 ^ (64 * i) % 2 ^ 64 < 2 ^ 64 := Nat.mod_lt _ (by decide)
  rw [B64_eq]
  omega

theorem lb_val (n k : Nat) : val (lb n) k = ((n % 2 ^ (64 * k) : Nat) : Int) := by
  induction k with
  | zero => simp [val, Nat.mod_one]
  | succ k ih =>
    rw [val, ih, pw_two]
    unfold lb
    rw [← Int.natCast_mul, ← Int.natCast_add, show 64 * (k + 1) = 64 * k + 64 by omega, Nat.pow_add, Nat.mod_mul]
    rw [Nat.mul_comm (2 ^ (64 * k))]

theorem RN_lt : RN < 2 ^ (64 * 6) := by decide +kernel

theorem lbF (a : F) : val (lb a.val) 6 = (a.val : Int) := by
  rw [lb_val, Nat.mod_eq_of_lt (Nat.lt_trans a.isLt RN_lt)]

/-- Its cells. -/
def FC (a : F) : List Value := [.int .u64 (lb a.val 0), .int .u64 (lb a.val 1), .int .u64 (lb a.val 2), .int .u64 (lb a.val 3), .int .u64 (lb a.val 4), .int .u64 (lb a.val 5)]
/-- Its value. -/
def FV (a : F) : Value := .agg (FC a).toArray

theorem FV_agg (a : F) : FV a = .agg #[.int .u64 (lb a.val 0), .int .u64 (lb a.val 1), .int .u64 (lb a.val 2), .int .u64 (lb a.val 3), .int .u64 (lb a.val 4), .int .u64 (lb a.val 5)] := rfl
theorem FC_len (a : F) : (FC a).length = 6 := rfl
theorem FC_one (a : F) : ∀ v ∈ FC a, v.oneCell' = true := by
  intro v hv
  simp only [FC, List.mem_cons, List.not_mem_nil, or_false] at hv
  rcases hv with rfl | rfl | rfl | rfl | rfl | rfl <;> rfl
/-- Limbs that are worth a number are its own. -/
theorem agg_of {h : Nat → Int} (rh : Rg h 6) {c : F} (hc : val h 6 = (c.val : Int)) : Value.agg #[.int .u64 (h 0), .int .u64 (h 1), .int .u64 (h 2), .int .u64 (h 3), .int .u64 (h 4), .int .u64 (h 5)] = FV c := by
  have e := digits rh (lb_rg c.val 6) (by rw [hc, lbF])
  rw [FV_agg, e 0 (by decide), e 1 (by decide), e 2 (by decide), e 3 (by decide), e 4 (by decide), e 5 (by decide)]

theorem lt_RI (a : F) : val (lb a.val) 6 < RI := by rw [lbF, RI_RN]; have := a.isLt; omega

/-- Any limbs below P are a number's. -/
theorem num_of {f : Nat → Int} (rf : Rg f 6) (h : val f 6 < RI) : ∃ a : F, frv f = FV a ∧ val f 6 = (a.val : Int) := by
  have h0 := (val_bd rf).1
  obtain ⟨n, hn⟩ := Int.eq_ofNat_of_zero_le h0
  refine ⟨⟨n, by rw [RI_RN] at h; omega⟩, ?_, hn⟩
  exact agg_of rf hn

theorem val_add (a b : F) : (((a + b : F).val : Nat) : Int) = ((a.val : Int) + b.val) % RI := by
  rw [Fin.val_add, RI_RN, Int.natCast_emod, Int.natCast_add]
theorem val_mul (a b : F) : (((a * b : F).val : Nat) : Int) = ((a.val : Int) * b.val) % RI := by
  rw [Fin.val_mul, RI_RN, Int.natCast_emod, Int.natCast_mul]
theorem val_sub (a b : F) : (((a - b : F).val : Nat) : Int) = ((a.val : Int) - b.val) % RI := by
  have hb := b.isLt
  rw [Fin.val_sub, RI_RN, Int.natCast_emod, Int.natCast_add, Int.natCast_sub (Nat.le_of_lt hb), show (RN : Int) - b.val + a.val = (a.val - b.val : Int) + RN by omega, Int.add_emod_right]
theorem val_neg (a : F) : (((-a : F).val : Nat) : Int) = (0 - (a.val : Int)) % RI := by
  have := val_sub 0 a
  rw [show (0 : F) - a = -a by grind] at this
  rw [this]; rfl

/-- 1 / a. -/
noncomputable def finv (a : F) : F := Classical.choose (⟨Fin.ofNat RN (a.val ^ (RN - 2)), rfl⟩ : ∃ b : F, b = Fin.ofNat RN (a.val ^ (RN - 2)))
theorem finv_eq (a : F) : finv a = Fin.ofNat RN (a.val ^ (RN - 2)) := Classical.choose_spec (⟨Fin.ofNat RN (a.val ^ (RN - 2)), rfl⟩ : ∃ b : F, b = Fin.ofNat RN (a.val ^ (RN - 2)))
theorem val_finv (a : F) : ((finv a).val : Int) = (a.val : Int) ^ (RN - 2) % RI := by
  rw [finv_eq, RI_RN, ← cast_pow_mod]; rfl
/-- What is a root, if there is one. -/
noncomputable def rt (a : F) : F := Classical.choose (⟨Fin.ofNat RN (a.val ^ SE), rfl⟩ : ∃ b : F, b = Fin.ofNat RN (a.val ^ SE))
theorem rt_eq (a : F) : rt a = Fin.ofNat RN (a.val ^ SE) := Classical.choose_spec (⟨Fin.ofNat RN (a.val ^ SE), rfl⟩ : ∃ b : F, b = Fin.ofNat RN (a.val ^ SE))
theorem val_rt (a : F) : ((rt a).val : Int) = sq a.val := by
  unfold sq
  rw [rt_eq, RI_RN, ← cast_pow_mod]; rfl
def great (a : F) : Bool := decide (RN / 2 < a.val)
noncomputable def isq (a : F) : Bool := decide (rt a * rt a = a)
/-- The root that is told, 0 where there is none. -/
noncomputable def root (a : F) : F := if isq a = true then (if great (rt a) = true then -rt a else rt a) else 0

theorem ext_int {a b : F} (h : (a.val : Int) = b.val) : a = b := Fin.ext (by omega)

theorem finv_mul {a : F} (h : a ≠ 0) : a * finv a = 1 := by
  refine ext_int ?_
  have h0 : (a.val : Int) ≠ 0 := fun e => h (Fin.ext (by have : a.val = 0 := by omega
                                                         rw [this]; rfl))
  rw [val_mul, val_finv, invI (by omega) h0 (by rw [RI_RN]; have := a.isLt; omega)]
  rfl

theorem great_int (a : F) : decide (RI / 2 < (a.val : Int)) = great a := by
  unfold great
  rw [RI_RN]
  congr 1
  refine propext ⟨fun h => ?_, fun h => ?_⟩ <;> omega

theorem isq_int (a : F) : (sq a.val * sq a.val % RI = a.val) ↔ isq a = true := by
  unfold isq
  rw [decide_eq_true_eq, ← val_rt, ← val_mul]
  exact ⟨fun h => ext_int h, fun h => by rw [h]⟩

theorem lesser_int (a : F) (h : isq a = true) : ((root a).val : Int) = lesser (sq a.val) := by
  unfold root lesser
  rw [if_pos h]
  have g := great_int (rt a)
  rw [val_rt] at g
  by_cases hg : RI / 2 < sq a.val
  · rw [if_pos hg, if_pos (by rw [← g]; exact decide_eq_true hg), val_neg, val_rt]
  · rw [if_neg hg, if_neg (by rw [← g, decide_eq_false hg]; simp), val_rt]

/-- What a call answers, in new memory alone. -/
def Ret (v : Value) (w : World) : Ending → World → Prop := fun e w' => e = .returned v ∧ Below w.heap.size w w'

end Go.Proofs.YtgoghcmnnhglhaaDoor.fpn

/- What the document's SqrtP answers. -/
namespace Go.Proofs.YtgoghcmnnhglhaaDoor.fpn
open Go.RowKit
attribute [local go_sem ↓] Go.wp_at_zero Go.wp_at_succ
set_option linter.unusedVariables false
set_option linter.unusedSimpArgs false

theorem SE_val : (RI + 1) / 2 / 2 = (SE : Int) := by decide +kernel
theorem nm_pos {f : Nat → Int} {n : Nat} (h : val f n = val rL 6 + val (one 1) 1) : 0 < n := by
  rcases Nat.eq_zero_or_pos n with rfl | h0
  · rw [rL_val, val_one] at h
    simp [val] at h
    have : 0 < RI := RI_pos
    omega
  · exact h0
/-- The literal's slice, and the box, in the worlds where they are laid: y, then o, behind them x. -/
theorem lit1 {t : TypeId} {y x : World} (h : Below (y.alloc (.cells #[.int .u64 1] t)).heap.size (y.alloc (.cells #[.int .u64 1] t)) x) : Below y.heap.size y x ∧ At x (some ⟨y.heap.size, 0, none⟩) 1 (one 1) :=
  ⟨Below.up (below_one _ _) (Nat.le_refl _) h, AtK.below (at_one _ _ _) h⟩
theorem box1 {s : TypeId} {y x : World} (h : Below (y.alloc (.cells #[.int .u64 0, .int .u64 0, .int .u64 0, .int .u64 0, .int .u64 0, .int .u64 0] s)).heap.size (y.alloc (.cells #[.int .u64 0, .int .u64 0, .int .u64 0, .int .u64 0, .int .u64 0, .int .u64 0] s)) x) : Below y.heap.size y x ∧ Mut x y.heap.size 0 6 Z :=
  ⟨Below.up (below_one _ _) (Nat.le_refl _) h, MutK.below (mut_noughts _ _) h (by simp)⟩
theorem litbox {t s : TypeId} {y x : World} (h : Below ((y.alloc (.cells #[.int .u64 1] t)).alloc (.cells #[.int .u64 0, .int .u64 0, .int .u64 0, .int .u64 0, .int .u64 0, .int .u64 0] s)).heap.size ((y.alloc (.cells #[.int .u64 1] t)).alloc (.cells #[.int .u64 0, .int .u64 0, .int .u64 0, .int .u64 0, .int .u64 0, .int .u64 0] s)) x) : Below y.heap.size y x ∧ At x (some ⟨y.heap.size, 0, none⟩) 1 (one 1) ∧ Mut x (y.heap.size + 1) 0 6 Z := by
  have h1 := box1 h
  have h2 := lit1 h1.1
  rw [World.size_alloc] at h1
  exact ⟨h2.1, h2.2, h1.2⟩
theorem boxlit {t s : TypeId} {y x : World} (h : Below ((y.alloc (.cells #[.int .u64 0, .int .u64 0, .int .u64 0, .int .u64 0, .int .u64 0, .int .u64 0] s)).alloc (.cells #[.int .u64 1] t)).heap.size ((y.alloc (.cells #[.int .u64 0, .int .u64 0, .int .u64 0, .int .u64 0, .int .u64 0, .int .u64 0] s)).alloc (.cells #[.int .u64 1] t)) x) : Below y.heap.size y x ∧ At x (some ⟨y.heap.size + 1, 0, none⟩) 1 (one 1) ∧ Mut x y.heap.size 0 6 Z := by
  have h1 := lit1 h
  have h2 := box1 h1.1
  rw [World.size_alloc] at h1
  exact ⟨h2.1, h1.2, h2.2⟩
theorem at_one2 {t s : TypeId} (y : World) : At ((y.alloc (.cells #[.int .u64 0, .int .u64 0, .int .u64 0, .int .u64 0, .int .u64 0, .int .u64 0] s)).alloc (.cells #[.int .u64 1] t)) (some ⟨y.heap.size + 1, 0, none⟩) 1 (one 1) := by
  have := at_one (y.alloc (.cells #[.int .u64 0, .int .u64 0, .int .u64 0, .int .u64 0, .int .u64 0, .int .u64 0] s)) 1 t
  rw [World.size_alloc] at this
  exact this
theorem refP_new (w : World) : Calls Tryd.prog 28 #[] w fun e w' => ∃ k : Nat, e = .returned (.slice (some ⟨k, 0, none⟩) 6 6) ∧ Below w.heap.size w w' ∧ At w' (some ⟨k, 0, none⟩) 6 rL := by
  refine Calls.mono (refR_any w) ?_
  rintro e w' ⟨rfl, b, -, m⟩
  exact ⟨_, rfl, b, m.at⟩
/-- What the first step leaves. -/
def sqPost (f : Nat → Int) (w W : World) : Exit → Act → World → Prop := fun e a' V => e = .normal ∧ ∃ (d : Nat) (h : Nat → Int) (u5 u6 u7 u8 u9 u10 u11 u12 u13 u14 u15 u16 u17 u18 u19 u20 u21 u22 : Value), a' = { tmps := #[.agg #[.int .u64 (f 0), .int .u64 (f 1), .int .u64 (f 2), .int .u64 (f 3), .int .u64 (f 4), .int .u64 (f 5)], .pointer (some ⟨w.heap.size, 0, none⟩), .pointer (some ⟨w.heap.size + 1, 0, none⟩), .bool false, .pointer (some ⟨d, 0, none⟩), u5, u6, u7, u8, u9, u10, u11, u12, u13, u14, u15, u16, u17, u18, u19, u20, u21, u22], defers := [] } ∧ Below W.heap.size W V ∧ Mut V d 0 6 h ∧ Rg h 6 ∧ val h 6 = sq (val f 6) ∧ W.heap.size ≤ d

/-- An operation is taken first, its slot told. -/
theorem takeW {P : Program} {ops : Array Oper} {Q : Exit → Act → World → Prop} {md : Region.Mode} {S : World → Prop} {i : Nat} {oi : Oper} {v : Value} {fuel : Nat} {listed : Array Bool} {a : Act} {w : World} (d : Tmp) (hi : ops[i]? = some oi)
    (hs : Region.noSelect ops = true) (hf : Region.free md ops listed i = true) (hr : (Region.ready md ops listed).contains i = true)
    (hQ : ∀ c a w, Q (.panic c) (a.put oi.dst v) w → Q (.panic c) a w) (hy : YieldsIf P ops S oi v a) (hS : S w) (hd : oi.dst = some d)
    (h : wpAnyH P md ops Q S fuel (listed.setIfInBounds i true) (a.put (some d) v) w) : wpAnyH P md ops Q S (fuel + 1) listed a w :=
  wpAnyH_take hi hs hf hr hQ hy hS (by rw [hd]; exact h)

set_option maxHeartbeats 16000000 in
theorem sqrtP_at (f : Nat → Int) (w : World) (rf : Rg f 6) (lf : val f 6 < RI) (b : Bool) (r : Int) (hyp : Hid ((sq (val f 6) * sq (val f 6) % RI = val f 6 ∧ b = true ∧ r = lesser (sq (val f 6))) ∨ (sq (val f 6) * sq (val f 6) % RI ≠ val f 6 ∧ b = false ∧ r = 0))) : Calls Tryd.prog 47 #[.agg #[.int .u64 (f 0), .int .u64 (f 1), .int .u64 (f 2), .int .u64 (f 3), .int .u64 (f 4), .int .u64 (f 5)]] w fun e w' => ∃ h : Nat → Int, e = .returned (.tuple #[.agg #[.int .u64 (h 0), .int .u64 (h 1), .int .u64 (h 2), .int .u64 (h 3), .int .u64 (h 4), .int .u64 (h 5)], .bool b]) ∧ Rg h 6 ∧ val h 6 = r ∧ Below w.heap.size w w' := by
  obtain ⟨B1, z1, hF, hR⟩ := pair_all w f 24
  unfold pair at B1 z1 hF hR
  have RF : Hid _ := rf
  have LF : Hid _ := lf
  clear rf lf
  go_enter Tryd.func47, Tryd.ntmps47
  go_wp2_with fail
  generalize (w.alloc (.cells #[.int .u64 (f 0), .int .u64 (f 1), .int .u64 (f 2), .int .u64 (f 3), .int .u64 (f 4), .int .u64 (f 5)] 24)).alloc (.cells #[.int .u64 0, .int .u64 0, .int .u64 0, .int .u64 0, .int .u64 0, .int .u64 0] 24) = W at *
  refine Code.wp_mono (Q := sqPost f w W) ?_ ?_
  · rintro e a' V ⟨rfl, d, h, u5, u6, u7, u8, u9, u10, u11, u12, u13, u14, u15, u16, u17, u18, u19, u20, u21, u22, rfl, bV, mV, rh, vh, ld⟩
    have dne1 : w.heap.size + 1 ≠ d := by rw [z1] at ld; omega
    have dne2 : d ≠ w.heap.size + 1 := fun e => dne1 e.symm
    have DLE : Hid (w.heap.size ≤ d) := by show _ ≤ _; rw [z1] at ld; omega
    have DNE : Hid _ := dne1
    clear ld
    have hFV := MutK.below hF bV (by rw [z1]; omega)
    have hRV := MutK.below hR bV (by rw [z1]; omega)
    have BV := Below.up B1 (Nat.le_refl _) bV
    have HS : Hid (∀ x, Below V.heap.size V x → (x.cell? ⟨d, 0, none⟩ = some (.int .u64 (h 0)) ∧ x.cell? ⟨d, 1, none⟩ = some (.int .u64 (h 1)) ∧ x.cell? ⟨d, 2, none⟩ = some (.int .u64 (h 2)) ∧ x.cell? ⟨d, 3, none⟩ = some (.int .u64 (h 3)) ∧ x.cell? ⟨d, 4, none⟩ = some (.int .u64 (h 4)) ∧ x.cell? ⟨d, 5, none⟩ = some (.int .u64 (h 5))) ∧ (x.cell? ⟨w.heap.size, 0, none⟩ = some (.int .u64 (f 0)) ∧ x.cell? ⟨w.heap.size, 1, none⟩ = some (.int .u64 (f 1)) ∧ x.cell? ⟨w.heap.size, 2, none⟩ = some (.int .u64 (f 2)) ∧ x.cell? ⟨w.heap.size, 3, none⟩ = some (.int .u64 (f 3)) ∧ x.cell? ⟨w.heap.size, 4, none⟩ = some (.int .u64 (f 4)) ∧ x.cell? ⟨w.heap.size, 5, none⟩ = some (.int .u64 (f 5)))) := fun x hx => ⟨at6 (mV.at.below hx), at6 (hFV.at.below hx)⟩
    have HR : Hid _ := hRV
    have MV : Hid _ := mV
    have B2 : Hid _ := BV
    have BW : Hid (Below V.heap.size V V.drew) := (Below.refl _ _).drew
    have RH : Hid _ := rh
    have VH : Hid _ := vh
    have LH : Hid (val h 6 < RI) := by show _ < _; rw [vh]; exact modR_lt _
    clear hF hR B1 z1 bV mV rh vh hFV hRV BV
    rcases hyp.out with ⟨hn, rfl, rfl⟩ | ⟨hn, rfl, rfl⟩
    · have HN : Hid _ := hn
      have KG : Hid _ := fun w => greatP_any h w RH.out
      rw [VH.out] at KG
      clear hn hyp
      by_cases hq : RI / 2 < sq (val f 6)
      · rw [decide_eq_true hq] at KG
        have HQ : Hid (lesser (sq (val f 6)) = (0 - sq (val f 6)) % RI) := if_pos hq
        clear hq
        go_wp2_with fail
        go_region_held3 (fun x => (x.cell? ⟨d, 0, none⟩ = some (.int .u64 (h 0)) ∧ x.cell? ⟨d, 1, none⟩ = some (.int .u64 (h 1)) ∧ x.cell? ⟨d, 2, none⟩ = some (.int .u64 (h 2)) ∧ x.cell? ⟨d, 3, none⟩ = some (.int .u64 (h 3)) ∧ x.cell? ⟨d, 4, none⟩ = some (.int .u64 (h 4)) ∧ x.cell? ⟨d, 5, none⟩ = some (.int .u64 (h 5))) ∧ (x.cell? ⟨w.heap.size, 0, none⟩ = some (.int .u64 (f 0)) ∧ x.cell? ⟨w.heap.size, 1, none⟩ = some (.int .u64 (f 1)) ∧ x.cell? ⟨w.heap.size, 2, none⟩ = some (.int .u64 (f 2)) ∧ x.cell? ⟨w.heap.size, 3, none⟩ = some (.int .u64 (f 3)) ∧ x.cell? ⟨w.heap.size, 4, none⟩ = some (.int .u64 (f 4)) ∧ x.cell? ⟨w.heap.size, 5, none⟩ = some (.int .u64 (f 5))))
          (exact HS.out _ BW.out)
          ((go_at_call 41; refine Calls.mono (mulR_agg h h _ RH.out RH.out LH.out) ?_; rintro e x3 ⟨h3, rfl, r3, v3, b3⟩; have BX := Below.up BW.out (Nat.le_refl _) b3; clear BW; have BW : Hid _ := BX; clear BX; have E3 : ∀ w, (Op.equalIn 10000 24 (.agg #[.int .u64 (h3 0), .int .u64 (h3 1), .int .u64 (h3 2), .int .u64 (h3 3), .int .u64 (h3 4), .int .u64 (h3 5)]) (.agg #[.int .u64 (f 0), .int .u64 (f 1), .int .u64 (f 2), .int .u64 (f 3), .int .u64 (f 4), .int .u64 (f 5)])).run Tryd.prog w = .ok true w := (fun w => by have e := eqFr_run h3 f r3 RF.out w; rw [v3, VH.out, decide_eq_true HN.out] at e; exact e); clear b3 r3 v3))
        obtain ⟨⟨t0, t1, t2, t3, t4, t5⟩, s0, s1, s2, s3, s4, s5⟩ := HS.out _ BW.out
        clear E3
        go_wp2_with fail
        refine Calls.mono (KG.out _) ?_
        rintro e x4 ⟨rfl, b4⟩
        have BX4 := Below.up BW.out (Nat.le_refl _) b4
        clear BW b4 t0 t1 t2 t3 t4 t5 s0 s1 s2 s3 s4 s5
        obtain ⟨⟨t0, t1, t2, t3, t4, t5⟩, s0, s1, s2, s3, s4, s5⟩ := HS.out _ BX4
        have m4 := MutK.below MV.out BX4 (cell_lt (MutK.cells6 MV.out).1)
        clear m4
        go_wp2_with fail
        have KN := negR_any h x4 RH.out LH.out
        unfold frv at KN
        refine Calls.mono KN ?_
        clear KN
        rintro e x5 ⟨v5, rfl, ⟨h5, rfl, r5, v5⟩, b5⟩
        rw [VH.out] at v5
        have BX5 := Below.up BX4 (Nat.le_refl _) b5
        have m5 := MutK.below MV.out BX5 (cell_lt (MutK.cells6 MV.out).1)
        have hR5 := MutK.below HR.out BX5 (cell_lt (MutK.cells6 HR.out).1)
        obtain ⟨V5, hV5⟩ : ∃ V5, (((((x5.setCell ⟨d, 0, none⟩ (.int .u64 (h5 0))).setCell ⟨d, 1, none⟩ (.int .u64 (h5 1))).setCell ⟨d, 2, none⟩ (.int .u64 (h5 2))).setCell ⟨d, 3, none⟩ (.int .u64 (h5 3))).setCell ⟨d, 4, none⟩ (.int .u64 (h5 4))).setCell ⟨d, 5, none⟩ (.int .u64 (h5 5)) = V5 := ⟨_, rfl⟩
        have mx : Mut V5 d 0 6 h5 := hV5 ▸ mut_set6 m5 h5
        have mr : Mut V5 (w.heap.size + 1) 0 6 Z := hV5 ▸ mut_not6 hR5 DNE.out _ _ _ _ _ _
        have HB : Hid (Below w.heap.size w V5) := hV5 ▸ below_set6 (Below.up B2.out (Nat.le_refl _) BX5) DLE.out _ _ _ _ _ _
        obtain ⟨p0, p1, p2, p3, p4, p5⟩ := MutK.cells6 m5
        obtain ⟨o0, o1, o2, o3, o4, o5⟩ := MutK.free6 m5
        obtain ⟨l0, l1, l2, l3, l4, l5⟩ := MutK.cells6 mx
        obtain ⟨y0, y1, y2, y3, y4, y5⟩ := MutK.cells6 mr
        obtain ⟨q0, q1, q2, q3, q4, q5⟩ := MutK.free6 mr
        have V5' : Hid _ := v5
        have R5 : Hid _ := r5
        clear t0 t1 t2 t3 t4 t5 s0 s1 s2 s3 s4 s5 m5 hR5 b5 BX4 BX5 v5 r5 mx mr dne1 dne2
        go_wp2
        refine bodyPost_ret (v := .tuple #[.agg #[.int .u64 (h5 0), .int .u64 (h5 1), .int .u64 (h5 2), .int .u64 (h5 3), .int .u64 (h5 4), .int .u64 (h5 5)], .bool true]) (by simp [results, Tryd.results47, go_sem, y0, y1, y2, y3, y4, y5]) rfl ⟨h5, rfl, R5.out, by rw [HQ.out]; exact V5'.out, ?_⟩
        exact below_set6 HB.out (by omega) _ _ _ _ _ _
      · rw [decide_eq_false hq] at KG
        have HQ : Hid (lesser (sq (val f 6)) = sq (val f 6)) := if_neg hq
        clear hq
        go_wp2_with fail
        go_region_held3 (fun x => (x.cell? ⟨d, 0, none⟩ = some (.int .u64 (h 0)) ∧ x.cell? ⟨d, 1, none⟩ = some (.int .u64 (h 1)) ∧ x.cell? ⟨d, 2, none⟩ = some (.int .u64 (h 2)) ∧ x.cell? ⟨d, 3, none⟩ = some (.int .u64 (h 3)) ∧ x.cell? ⟨d, 4, none⟩ = some (.int .u64 (h 4)) ∧ x.cell? ⟨d, 5, none⟩ = some (.int .u64 (h 5))) ∧ (x.cell? ⟨w.heap.size, 0, none⟩ = some (.int .u64 (f 0)) ∧ x.cell? ⟨w.heap.size, 1, none⟩ = some (.int .u64 (f 1)) ∧ x.cell? ⟨w.heap.size, 2, none⟩ = some (.int .u64 (f 2)) ∧ x.cell? ⟨w.heap.size, 3, none⟩ = some (.int .u64 (f 3)) ∧ x.cell? ⟨w.heap.size, 4, none⟩ = some (.int .u64 (f 4)) ∧ x.cell? ⟨w.heap.size, 5, none⟩ = some (.int .u64 (f 5))))
          (exact HS.out _ BW.out)
          ((go_at_call 41; refine Calls.mono (mulR_agg h h _ RH.out RH.out LH.out) ?_; rintro e x3 ⟨h3, rfl, r3, v3, b3⟩; have BX := Below.up BW.out (Nat.le_refl _) b3; clear BW; have BW : Hid _ := BX; clear BX; have E3 : ∀ w, (Op.equalIn 10000 24 (.agg #[.int .u64 (h3 0), .int .u64 (h3 1), .int .u64 (h3 2), .int .u64 (h3 3), .int .u64 (h3 4), .int .u64 (h3 5)]) (.agg #[.int .u64 (f 0), .int .u64 (f 1), .int .u64 (f 2), .int .u64 (f 3), .int .u64 (f 4), .int .u64 (f 5)])).run Tryd.prog w = .ok true w := (fun w => by have e := eqFr_run h3 f r3 RF.out w; rw [v3, VH.out, decide_eq_true HN.out] at e; exact e); clear b3 r3 v3))
        obtain ⟨⟨t0, t1, t2, t3, t4, t5⟩, s0, s1, s2, s3, s4, s5⟩ := HS.out _ BW.out
        clear E3
        go_wp2_with fail
        refine Calls.mono (KG.out _) ?_
        rintro e x4 ⟨rfl, b4⟩
        have BX4 := Below.up BW.out (Nat.le_refl _) b4
        clear BW b4 t0 t1 t2 t3 t4 t5 s0 s1 s2 s3 s4 s5
        obtain ⟨⟨t0, t1, t2, t3, t4, t5⟩, s0, s1, s2, s3, s4, s5⟩ := HS.out _ BX4
        obtain ⟨y0, y1, y2, y3, y4, y5⟩ := MutK.cells6 (MutK.below HR.out BX4 (cell_lt (MutK.cells6 HR.out).1))
        obtain ⟨q0, q1, q2, q3, q4, q5⟩ := MutK.free6 (MutK.below HR.out BX4 (cell_lt (MutK.cells6 HR.out).1))
        have HB : Hid _ := Below.up B2.out (Nat.le_refl _) BX4
        clear BX4 s0 s1 s2 s3 s4 s5
        go_wp2
        refine bodyPost_ret (v := .tuple #[.agg #[.int .u64 (h 0), .int .u64 (h 1), .int .u64 (h 2), .int .u64 (h 3), .int .u64 (h 4), .int .u64 (h 5)], .bool true]) (by simp [results, Tryd.results47, go_sem, y0, y1, y2, y3, y4, y5]) rfl ⟨h, rfl, RH.out, by rw [HQ.out]; exact VH.out, ?_⟩
        exact below_set6 HB.out (by omega) _ _ _ _ _ _
    · have HN : Hid _ := hn
      clear hn hyp
      go_wp2_with fail
      go_region_held3 (fun x => (x.cell? ⟨d, 0, none⟩ = some (.int .u64 (h 0)) ∧ x.cell? ⟨d, 1, none⟩ = some (.int .u64 (h 1)) ∧ x.cell? ⟨d, 2, none⟩ = some (.int .u64 (h 2)) ∧ x.cell? ⟨d, 3, none⟩ = some (.int .u64 (h 3)) ∧ x.cell? ⟨d, 4, none⟩ = some (.int .u64 (h 4)) ∧ x.cell? ⟨d, 5, none⟩ = some (.int .u64 (h 5))) ∧ (x.cell? ⟨w.heap.size, 0, none⟩ = some (.int .u64 (f 0)) ∧ x.cell? ⟨w.heap.size, 1, none⟩ = some (.int .u64 (f 1)) ∧ x.cell? ⟨w.heap.size, 2, none⟩ = some (.int .u64 (f 2)) ∧ x.cell? ⟨w.heap.size, 3, none⟩ = some (.int .u64 (f 3)) ∧ x.cell? ⟨w.heap.size, 4, none⟩ = some (.int .u64 (f 4)) ∧ x.cell? ⟨w.heap.size, 5, none⟩ = some (.int .u64 (f 5))))
          (exact HS.out _ BW.out)
          ((go_at_call 41; refine Calls.mono (mulR_agg h h _ RH.out RH.out LH.out) ?_; rintro e x3 ⟨h3, rfl, r3, v3, b3⟩; have BX := Below.up BW.out (Nat.le_refl _) b3; clear BW; have BW : Hid _ := BX; clear BX; have E3 : ∀ w, (Op.equalIn 10000 24 (.agg #[.int .u64 (h3 0), .int .u64 (h3 1), .int .u64 (h3 2), .int .u64 (h3 3), .int .u64 (h3 4), .int .u64 (h3 5)]) (.agg #[.int .u64 (f 0), .int .u64 (f 1), .int .u64 (f 2), .int .u64 (f 3), .int .u64 (f 4), .int .u64 (f 5)])).run Tryd.prog w = .ok false w := (fun w => by have e := eqFr_run h3 f r3 RF.out w; rw [v3, VH.out, decide_eq_false HN.out] at e; exact e); clear b3 r3 v3))
      obtain ⟨y0, y1, y2, y3, y4, y5⟩ := MutK.cells6 (MutK.below HR.out BW.out (cell_lt (MutK.cells6 HR.out).1))
      obtain ⟨q0, q1, q2, q3, q4, q5⟩ := MutK.free6 (MutK.below HR.out BW.out (cell_lt (MutK.cells6 HR.out).1))
      have HB : Hid _ := Below.up B2.out (Nat.le_refl _) BW.out
      clear BW
      go_wp2
      refine bodyPost_ret (v := .tuple #[.agg #[.int .u64 0, .int .u64 0, .int .u64 0, .int .u64 0, .int .u64 0, .int .u64 0], .bool false]) (by simp [results, Tryd.results47, go_sem, y0, y1, y2, y3, y4, y5]) rfl ⟨Z, rfl, Z_rg 6, val_Z 6, ?_⟩
      exact below_set6 HB.out (by omega) _ _ _ _ _ _
  · have HS : Hid (∀ x, Below W.heap.size W x → (x.cell? ⟨w.heap.size, 0, none⟩ = some (.int .u64 (f 0)) ∧ x.cell? ⟨w.heap.size, 1, none⟩ = some (.int .u64 (f 1)) ∧ x.cell? ⟨w.heap.size, 2, none⟩ = some (.int .u64 (f 2)) ∧ x.cell? ⟨w.heap.size, 3, none⟩ = some (.int .u64 (f 3)) ∧ x.cell? ⟨w.heap.size, 4, none⟩ = some (.int .u64 (f 4)) ∧ x.cell? ⟨w.heap.size, 5, none⟩ = some (.int .u64 (f 5)))) := fun x hx => at6 (hF.at.below hx)
    have BW : Hid (Below W.heap.size W W) := Below.refl _ _
    have LB : Hid (W.heap.size ≤ W.heap.size) := Nat.le_refl _
    have KP : Hid _ := powR_any f
    unfold frv at KP
    clear B1 hF hR z1
    refine wp_region_held_drew (S := (fun x => x.cell? ⟨w.heap.size, 0, none⟩ = some (.int .u64 (f 0)) ∧ x.cell? ⟨w.heap.size, 1, none⟩ = some (.int .u64 (f 1)) ∧ x.cell? ⟨w.heap.size, 2, none⟩ = some (.int .u64 (f 2)) ∧ x.cell? ⟨w.heap.size, 3, none⟩ = some (.int .u64 (f 3)) ∧ x.cell? ⟨w.heap.size, 4, none⟩ = some (.int .u64 (f 4)) ∧ x.cell? ⟨w.heap.size, 5, none⟩ = some (.int .u64 (f 5)))) (by kernel_rfl) (HS.out _ (Below.refl _ _).drew) (fun hHeld => ?_)
    refine takeW (i := 0) (v := .agg #[.int .u64 (f 0), .int .u64 (f 1), .int .u64 (f 2), .int .u64 (f 3), .int .u64 (f 4), .int .u64 (f 5)]) 5 rfl (by kernel_rfl) (by kernel_rfl) (by kernel_rfl) (by intro _ _ _ h; exact nomatch h.1) (Or.inl ⟨by rfl, fun wS hSw => by dsimp only at hSw; go_simp⟩) hHeld rfl ?_
    try simp only [Act.put, List.setIfInBounds_toArray, List.set_cons_zero, List.set_cons_succ]
    refine wpAnyH_ready (rs := [1, 2, 7]) (by kernel_rfl) (by simp) ?_
    refine AllReadyH.cons rfl (fun K hK => ?_) ?_
    · go_simp
      go_at_call 28; refine Calls.mono (refP_new _) ?_; rintro e w2 ⟨k2, rfl, b2, a2⟩; have bb' := (below_drew b2); have AP : Hid (At w2 (some ⟨k2, 0, none⟩) 6 rL) := a2; have BX : Below W.heap.size W w2 := Below.up BW.out (Nat.le_refl _) bb'; clear BW; have BW : Hid (Below W.heap.size W w2) := BX; clear LB; have LB : Hid (W.heap.size ≤ w2.heap.size) := BX.size; clear BX bb'; clear b2 a2
      refine hK.out _ _ (HS.out _ (BW.out)) (fun hHeld2 => ?_)
      clear hK K hHeld
      have hHeld := hHeld2
      clear hHeld2
      try simp only [Act.put, List.setIfInBounds_toArray, List.set_cons_zero, List.set_cons_succ]
      refine wpAnyH_ready (rs := [2, 7]) (by kernel_rfl) (by simp) ?_
      refine AllReadyH.cons rfl (fun K hK => ?_) ?_
      · go_simp
        refine hK.out _ _ (HS.out _ (Below.up BW.out (Nat.le_refl _) (below_one _ _))) (fun hHeld2 => ?_)
        clear hK K hHeld
        have hHeld := hHeld2
        clear hHeld2
        try simp only [Act.put, List.setIfInBounds_toArray, List.set_cons_zero, List.set_cons_succ]
        refine wpAnyH_ready (rs := [3, 7]) (by kernel_rfl) (by simp) ?_
        refine AllReadyH.cons rfl (fun K hK => ?_) ?_
        · go_simp
          go_at_call 70; refine Calls.mono (refSum_any _ _ 6 1 6 1 rL (one 1) _ (by omega) (by omega) (by omega) (by omega) (AtK.below AP.out (below_one _ _)) (at_one _ _ _) rL_rg (one_rg ⟨by decide, by rw [B64_eq]; decide⟩ 1) (by omega) (by omega)) ?_; rintro e w3 ⟨v3, rfl, b3, p3, n3, c3, h3, rfl, q1, q2, q3, a3, r3, nm3, v3⟩; have bb' := (lit1 b3).1; have A3 : Hid (At w3 p3 n3 h3) := a3; have R3 : Hid _ := r3; have V3 : Hid _ := v3; have P3 : 0 < n3 := nm_pos v3; have BX : Below W.heap.size W w3 := Below.up BW.out (Nat.le_refl _) bb'; clear BW; have BW : Hid (Below W.heap.size W w3) := BX; clear LB; have LB : Hid (W.heap.size ≤ w3.heap.size) := BX.size; clear BX bb'; clear b3 a3 r3 v3 nm3 AP
          refine hK.out _ _ (HS.out _ (BW.out)) (fun hHeld2 => ?_)
          clear hK K hHeld
          have hHeld := hHeld2
          clear hHeld2
          try simp only [Act.put, List.setIfInBounds_toArray, List.set_cons_zero, List.set_cons_succ]
          refine wpAnyH_ready (rs := [4, 7]) (by kernel_rfl) (by simp) ?_
          refine AllReadyH.cons rfl (fun K hK => ?_) ?_
          · go_simp
            go_at_call 67; refine Calls.mono (half_any p3 n3 c3 h3 _ P3 (by omega) q1 (A3.out) R3.out) ?_; rintro e w4 ⟨k4, rfl, b4, m4⟩; have bb' := b4; have M4 : Hid (At w4 (some ⟨k4, 0, none⟩) n3 (hv h3 n3)) := m4.at; have BX : Below W.heap.size W w4 := Below.up BW.out (Nat.le_refl _) bb'; clear BW; have BW : Hid (Below W.heap.size W w4) := BX; clear LB; have LB : Hid (W.heap.size ≤ w4.heap.size) := BX.size; clear BX bb'; clear b4 m4 A3
            refine hK.out _ _ (HS.out _ (BW.out)) (fun hHeld2 => ?_)
            clear hK K hHeld
            have hHeld := hHeld2
            clear hHeld2
            try simp only [Act.put, List.setIfInBounds_toArray, List.set_cons_zero, List.set_cons_succ]
            refine wpAnyH_ready (rs := [5, 7]) (by kernel_rfl) (by simp) ?_
            refine AllReadyH.cons rfl (fun K hK => ?_) ?_
            · go_simp
              go_at_call 67; refine Calls.mono (half_any (some ⟨k4, 0, none⟩) n3 n3 (hv h3 n3) _ P3 (by omega) (by omega) (M4.out) (hv_rg R3.out)) ?_; rintro e w5 ⟨k5, rfl, b5, m5⟩; have bb' := b5; have M5 : Hid (At w5 (some ⟨k5, 0, none⟩) n3 (hv (hv h3 n3) n3)) := m5.at; have BX : Below W.heap.size W w5 := Below.up BW.out (Nat.le_refl _) bb'; clear BW; have BW : Hid (Below W.heap.size W w5) := BX; clear LB; have LB : Hid (W.heap.size ≤ w5.heap.size) := BX.size; clear BX bb'; clear b5 m5 M4
              refine hK.out _ _ (HS.out _ (BW.out)) (fun hHeld2 => ?_)
              clear hK K hHeld
              have hHeld := hHeld2
              clear hHeld2
              try simp only [Act.put, List.setIfInBounds_toArray, List.set_cons_zero, List.set_cons_succ]
              refine wpAnyH_ready (rs := [6, 7]) (by kernel_rfl) (by simp) ?_
              refine AllReadyH.cons rfl (fun K hK => ?_) ?_
              · go_simp
                go_at_call 57; refine Calls.mono (KP.out (some ⟨k5, 0, none⟩) n3 n3 (hv (hv h3 n3) n3) SE _ RF.out LF.out (by omega) (M5.out) (hv_rg (hv_rg R3.out)) (by rw [hv_val P3, hv_val P3, V3.out, rL_val, val_one]; exact SE_val)) ?_; rintro e w6 ⟨v6, rfl, ⟨h6, rfl, r6, v6⟩, b6⟩; have bb' := b6; have R6 : Hid (Rg h6 6) := r6; have V6 : Hid (val h6 6 = sq (val f 6)) := v6; have BX : Below W.heap.size W w6 := Below.up BW.out (Nat.le_refl _) bb'; clear BW; have BW : Hid (Below W.heap.size W w6) := BX; clear LB; have LB : Hid (W.heap.size ≤ w6.heap.size) := BX.size; clear BX bb'; clear b6 r6 v6 M5 R3 V3 P3
                refine hK.out _ _ (HS.out _ (BW.out)) (fun hHeld2 => ?_)
                clear hK K hHeld
                have hHeld := hHeld2
                clear hHeld2
                try simp only [Act.put, List.setIfInBounds_toArray, List.set_cons_zero, List.set_cons_succ]
                refine wpAnyH_ready (rs := [7]) (by kernel_rfl) (by simp) ?_
                refine AllReadyH.cons rfl (fun K hK => ?_) AllReadyH.nil
                go_simp
                refine hK.out _ _ (HS.out _ (Below.up BW.out (Nat.le_refl _) (below_one _ _))) (fun hHeld2 => ?_)
                clear hK K hHeld
                have hHeld := hHeld2
                clear hHeld2
                try simp only [Act.put, List.setIfInBounds_toArray, List.set_cons_zero, List.set_cons_succ]
                refine wpAnyH_ready (rs := [8]) (by kernel_rfl) (by simp) ?_
                refine AllReadyH.cons rfl (fun K hK => ?_) AllReadyH.nil
                go_simp
                refine hK.out _ _ (HS.out _ ((finA h6 BW.out).1)) (fun hHeld2 => ?_)
                clear hK K hHeld hHeld2
                try simp only [Act.put, List.setIfInBounds_toArray, List.set_cons_zero, List.set_cons_succ]
                refine wpAnyH_done (by kernel_rfl) ?_ _
                exact ⟨rfl, _, h6, _, _, _, _, _, _, _, _, _, _, _, _, _, _, _, _, _, _, rfl, (finA h6 BW.out).1, (finA h6 BW.out).2, R6.out, V6.out, LB.out⟩
              refine AllReadyH.cons rfl (fun K hK => ?_) AllReadyH.nil
              go_simp
              refine hK.out _ _ (HS.out _ (Below.up BW.out (Nat.le_refl _) (below_one _ _))) (fun hHeld2 => ?_)
              clear hK K hHeld
              have hHeld := hHeld2
              clear hHeld2
              try simp only [Act.put, List.setIfInBounds_toArray, List.set_cons_zero, List.set_cons_succ]
              refine wpAnyH_ready (rs := [6]) (by kernel_rfl) (by simp) ?_
              refine AllReadyH.cons rfl (fun K hK => ?_) AllReadyH.nil
              go_simp
              go_at_call 57; refine Calls.mono (KP.out (some ⟨k5, 0, none⟩) n3 n3 (hv (hv h3 n3) n3) SE _ RF.out LF.out (by omega) (AtK.below M5.out (below_one _ _)) (hv_rg (hv_rg R3.out)) (by rw [hv_val P3, hv_val P3, V3.out, rL_val, val_one]; exact SE_val)) ?_; rintro e w6 ⟨v6, rfl, ⟨h6, rfl, r6, v6⟩, b6⟩; have bb' := (box1 b6).1; have MX : Hid _ := (box1 b6).2; have LX : Hid (W.heap.size ≤ w5.heap.size) := (by exact LB.out); have R6 : Hid (Rg h6 6) := r6; have V6 : Hid (val h6 6 = sq (val f 6)) := v6; obtain ⟨m0, m1, m2, m3, m4, m5⟩ := MutK.cells6 MX.out; obtain ⟨n0, n1, n2, n3, n4, n5⟩ := MutK.free6 MX.out; have BX : Below W.heap.size W w6 := Below.up BW.out (Nat.le_refl _) bb'; clear BW; have BW : Hid (Below W.heap.size W w6) := BX; clear LB; have LB : Hid (W.heap.size ≤ w6.heap.size) := BX.size; clear BX bb'; clear b6 r6 v6 M5 R3 V3 P3
              refine hK.out _ _ (HS.out _ (BW.out)) (fun hHeld2 => ?_)
              clear hK K hHeld
              have hHeld := hHeld2
              clear hHeld2
              try simp only [Act.put, List.setIfInBounds_toArray, List.set_cons_zero, List.set_cons_succ]
              refine wpAnyH_ready (rs := [8]) (by kernel_rfl) (by simp) ?_
              refine AllReadyH.cons rfl (fun K hK => ?_) AllReadyH.nil
              go_simp
              refine hK.out _ _ (HS.out _ (below_set6 BW.out LX.out _ _ _ _ _ _)) (fun hHeld2 => ?_)
              clear hK K hHeld hHeld2
              try simp only [Act.put, List.setIfInBounds_toArray, List.set_cons_zero, List.set_cons_succ]
              refine wpAnyH_done (by kernel_rfl) ?_ _
              exact ⟨rfl, _, h6, _, _, _, _, _, _, _, _, _, _, _, _, _, _, _, _, _, _, rfl, (finB h6 BW.out MX.out LX.out).1, (finB h6 BW.out MX.out LX.out).2, R6.out, V6.out, LX.out⟩
            refine AllReadyH.cons rfl (fun K hK => ?_) AllReadyH.nil
            go_simp
            refine hK.out _ _ (HS.out _ (Below.up BW.out (Nat.le_refl _) (below_one _ _))) (fun hHeld2 => ?_)
            clear hK K hHeld
            have hHeld := hHeld2
            clear hHeld2
            try simp only [Act.put, List.setIfInBounds_toArray, List.set_cons_zero, List.set_cons_succ]
            refine wpAnyH_ready (rs := [5]) (by kernel_rfl) (by simp) ?_
            refine AllReadyH.cons rfl (fun K hK => ?_) AllReadyH.nil
            go_simp
            go_at_call 67; refine Calls.mono (half_any (some ⟨k4, 0, none⟩) n3 n3 (hv h3 n3) _ P3 (by omega) (by omega) (AtK.below M4.out (below_one _ _)) (hv_rg R3.out)) ?_; rintro e w5 ⟨k5, rfl, b5, m5⟩; have bb' := (box1 b5).1; have MX : Hid _ := (box1 b5).2; have LX : Hid (W.heap.size ≤ w4.heap.size) := (by exact LB.out); have M5 : Hid (At w5 (some ⟨k5, 0, none⟩) n3 (hv (hv h3 n3) n3)) := m5.at; have BX : Below W.heap.size W w5 := Below.up BW.out (Nat.le_refl _) bb'; clear BW; have BW : Hid (Below W.heap.size W w5) := BX; clear LB; have LB : Hid (W.heap.size ≤ w5.heap.size) := BX.size; clear BX bb'; clear b5 m5 M4
            refine hK.out _ _ (HS.out _ (BW.out)) (fun hHeld2 => ?_)
            clear hK K hHeld
            have hHeld := hHeld2
            clear hHeld2
            try simp only [Act.put, List.setIfInBounds_toArray, List.set_cons_zero, List.set_cons_succ]
            refine wpAnyH_ready (rs := [6]) (by kernel_rfl) (by simp) ?_
            refine AllReadyH.cons rfl (fun K hK => ?_) AllReadyH.nil
            go_simp
            go_at_call 57; refine Calls.mono (KP.out (some ⟨k5, 0, none⟩) n3 n3 (hv (hv h3 n3) n3) SE _ RF.out LF.out (by omega) (M5.out) (hv_rg (hv_rg R3.out)) (by rw [hv_val P3, hv_val P3, V3.out, rL_val, val_one]; exact SE_val)) ?_; rintro e w6 ⟨v6, rfl, ⟨h6, rfl, r6, v6⟩, b6⟩; have bb' := b6; have MX3 : Hid _ := MutK.below MX.out bb' (cell_lt (MutK.cells6 MX.out).1); clear MX; have MX : Hid _ := MX3.out; clear MX3; have R6 : Hid (Rg h6 6) := r6; have V6 : Hid (val h6 6 = sq (val f 6)) := v6; obtain ⟨m0, m1, m2, m3, m4, m5⟩ := MutK.cells6 MX.out; obtain ⟨n0, n1, n2, n3, n4, n5⟩ := MutK.free6 MX.out; have BX : Below W.heap.size W w6 := Below.up BW.out (Nat.le_refl _) bb'; clear BW; have BW : Hid (Below W.heap.size W w6) := BX; clear LB; have LB : Hid (W.heap.size ≤ w6.heap.size) := BX.size; clear BX bb'; clear b6 r6 v6 M5 R3 V3 P3
            refine hK.out _ _ (HS.out _ (BW.out)) (fun hHeld2 => ?_)
            clear hK K hHeld
            have hHeld := hHeld2
            clear hHeld2
            try simp only [Act.put, List.setIfInBounds_toArray, List.set_cons_zero, List.set_cons_succ]
            refine wpAnyH_ready (rs := [8]) (by kernel_rfl) (by simp) ?_
            refine AllReadyH.cons rfl (fun K hK => ?_) AllReadyH.nil
            go_simp
            refine hK.out _ _ (HS.out _ (below_set6 BW.out LX.out _ _ _ _ _ _)) (fun hHeld2 => ?_)
            clear hK K hHeld hHeld2
            try simp only [Act.put, List.setIfInBounds_toArray, List.set_cons_zero, List.set_cons_succ]
            refine wpAnyH_done (by kernel_rfl) ?_ _
            exact ⟨rfl, _, h6, _, _, _, _, _, _, _, _, _, _, _, _, _, _, _, _, _, _, rfl, (finB h6 BW.out MX.out LX.out).1, (finB h6 BW.out MX.out LX.out).2, R6.out, V6.out, LX.out⟩
          refine AllReadyH.cons rfl (fun K hK => ?_) AllReadyH.nil
          go_simp
          refine hK.out _ _ (HS.out _ (Below.up BW.out (Nat.le_refl _) (below_one _ _))) (fun hHeld2 => ?_)
          clear hK K hHeld
          have hHeld := hHeld2
          clear hHeld2
          try simp only [Act.put, List.setIfInBounds_toArray, List.set_cons_zero, List.set_cons_succ]
          refine wpAnyH_ready (rs := [4]) (by kernel_rfl) (by simp) ?_
          refine AllReadyH.cons rfl (fun K hK => ?_) AllReadyH.nil
          go_simp
          go_at_call 67; refine Calls.mono (half_any p3 n3 c3 h3 _ P3 (by omega) q1 (AtK.below A3.out (below_one _ _)) R3.out) ?_; rintro e w4 ⟨k4, rfl, b4, m4⟩; have bb' := (box1 b4).1; have MX : Hid _ := (box1 b4).2; have LX : Hid (W.heap.size ≤ w3.heap.size) := (by exact LB.out); have M4 : Hid (At w4 (some ⟨k4, 0, none⟩) n3 (hv h3 n3)) := m4.at; have BX : Below W.heap.size W w4 := Below.up BW.out (Nat.le_refl _) bb'; clear BW; have BW : Hid (Below W.heap.size W w4) := BX; clear LB; have LB : Hid (W.heap.size ≤ w4.heap.size) := BX.size; clear BX bb'; clear b4 m4 A3
          refine hK.out _ _ (HS.out _ (BW.out)) (fun hHeld2 => ?_)
          clear hK K hHeld
          have hHeld := hHeld2
          clear hHeld2
          try simp only [Act.put, List.setIfInBounds_toArray, List.set_cons_zero, List.set_cons_succ]
          refine wpAnyH_ready (rs := [5]) (by kernel_rfl) (by simp) ?_
          refine AllReadyH.cons rfl (fun K hK => ?_) AllReadyH.nil
          go_simp
          go_at_call 67; refine Calls.mono (half_any (some ⟨k4, 0, none⟩) n3 n3 (hv h3 n3) _ P3 (by omega) (by omega) (M4.out) (hv_rg R3.out)) ?_; rintro e w5 ⟨k5, rfl, b5, m5⟩; have bb' := b5; have MX3 : Hid _ := MutK.below MX.out bb' (cell_lt (MutK.cells6 MX.out).1); clear MX; have MX : Hid _ := MX3.out; clear MX3; have M5 : Hid (At w5 (some ⟨k5, 0, none⟩) n3 (hv (hv h3 n3) n3)) := m5.at; have BX : Below W.heap.size W w5 := Below.up BW.out (Nat.le_refl _) bb'; clear BW; have BW : Hid (Below W.heap.size W w5) := BX; clear LB; have LB : Hid (W.heap.size ≤ w5.heap.size) := BX.size; clear BX bb'; clear b5 m5 M4
          refine hK.out _ _ (HS.out _ (BW.out)) (fun hHeld2 => ?_)
          clear hK K hHeld
          have hHeld := hHeld2
          clear hHeld2
          try simp only [Act.put, List.setIfInBounds_toArray, List.set_cons_zero, List.set_cons_succ]
          refine wpAnyH_ready (rs := [6]) (by kernel_rfl) (by simp) ?_
          refine AllReadyH.cons rfl (fun K hK => ?_) AllReadyH.nil
          go_simp
          go_at_call 57; refine Calls.mono (KP.out (some ⟨k5, 0, none⟩) n3 n3 (hv (hv h3 n3) n3) SE _ RF.out LF.out (by omega) (M5.out) (hv_rg (hv_rg R3.out)) (by rw [hv_val P3, hv_val P3, V3.out, rL_val, val_one]; exact SE_val)) ?_; rintro e w6 ⟨v6, rfl, ⟨h6, rfl, r6, v6⟩, b6⟩; have bb' := b6; have MX3 : Hid _ := MutK.below MX.out bb' (cell_lt (MutK.cells6 MX.out).1); clear MX; have MX : Hid _ := MX3.out; clear MX3; have R6 : Hid (Rg h6 6) := r6; have V6 : Hid (val h6 6 = sq (val f 6)) := v6; obtain ⟨m0, m1, m2, m3, m4, m5⟩ := MutK.cells6 MX.out; obtain ⟨n0, n1, n2, n3, n4, n5⟩ := MutK.free6 MX.out; have BX : Below W.heap.size W w6 := Below.up BW.out (Nat.le_refl _) bb'; clear BW; have BW : Hid (Below W.heap.size W w6) := BX; clear LB; have LB : Hid (W.heap.size ≤ w6.heap.size) := BX.size; clear BX bb'; clear b6 r6 v6 M5 R3 V3 P3
          refine hK.out _ _ (HS.out _ (BW.out)) (fun hHeld2 => ?_)
          clear hK K hHeld
          have hHeld := hHeld2
          clear hHeld2
          try simp only [Act.put, List.setIfInBounds_toArray, List.set_cons_zero, List.set_cons_succ]
          refine wpAnyH_ready (rs := [8]) (by kernel_rfl) (by simp) ?_
          refine AllReadyH.cons rfl (fun K hK => ?_) AllReadyH.nil
          go_simp
          refine hK.out _ _ (HS.out _ (below_set6 BW.out LX.out _ _ _ _ _ _)) (fun hHeld2 => ?_)
          clear hK K hHeld hHeld2
          try simp only [Act.put, List.setIfInBounds_toArray, List.set_cons_zero, List.set_cons_succ]
          refine wpAnyH_done (by kernel_rfl) ?_ _
          exact ⟨rfl, _, h6, _, _, _, _, _, _, _, _, _, _, _, _, _, _, _, _, _, _, rfl, (finB h6 BW.out MX.out LX.out).1, (finB h6 BW.out MX.out LX.out).2, R6.out, V6.out, LX.out⟩
        refine AllReadyH.cons rfl (fun K hK => ?_) AllReadyH.nil
        go_simp
        refine hK.out _ _ (HS.out _ (Below.up BW.out (Nat.le_refl _) (below_two _ _ _))) (fun hHeld2 => ?_)
        clear hK K hHeld
        have hHeld := hHeld2
        clear hHeld2
        try simp only [Act.put, List.setIfInBounds_toArray, List.set_cons_zero, List.set_cons_succ]
        refine wpAnyH_ready (rs := [3]) (by kernel_rfl) (by simp) ?_
        refine AllReadyH.cons rfl (fun K hK => ?_) AllReadyH.nil
        go_simp
        go_at_call 70; refine Calls.mono (refSum_any _ _ 6 1 6 1 rL (one 1) _ (by omega) (by omega) (by omega) (by omega) (AtK.below AP.out (below_two _ _ _)) (AtK.below (at_one _ _ _) (below_one _ _)) rL_rg (one_rg ⟨by decide, by rw [B64_eq]; decide⟩ 1) (by omega) (by omega)) ?_; rintro e w3 ⟨v3, rfl, b3, p3, n3, c3, h3, rfl, q1, q2, q3, a3, r3, nm3, v3⟩; have bb' := (litbox b3).1; have MX : Hid _ := (litbox b3).2.2; have LX : Hid (W.heap.size ≤ w2.heap.size + 1) := Nat.le_succ_of_le LB.out; have A3 : Hid (At w3 p3 n3 h3) := a3; have R3 : Hid _ := r3; have V3 : Hid _ := v3; have P3 : 0 < n3 := nm_pos v3; have BX : Below W.heap.size W w3 := Below.up BW.out (Nat.le_refl _) bb'; clear BW; have BW : Hid (Below W.heap.size W w3) := BX; clear LB; have LB : Hid (W.heap.size ≤ w3.heap.size) := BX.size; clear BX bb'; clear b3 a3 r3 v3 nm3 AP
        refine hK.out _ _ (HS.out _ (BW.out)) (fun hHeld2 => ?_)
        clear hK K hHeld
        have hHeld := hHeld2
        clear hHeld2
        try simp only [Act.put, List.setIfInBounds_toArray, List.set_cons_zero, List.set_cons_succ]
        refine wpAnyH_ready (rs := [4]) (by kernel_rfl) (by simp) ?_
        refine AllReadyH.cons rfl (fun K hK => ?_) AllReadyH.nil
        go_simp
        go_at_call 67; refine Calls.mono (half_any p3 n3 c3 h3 _ P3 (by omega) q1 (A3.out) R3.out) ?_; rintro e w4 ⟨k4, rfl, b4, m4⟩; have bb' := b4; have MX3 : Hid _ := MutK.below MX.out bb' (cell_lt (MutK.cells6 MX.out).1); clear MX; have MX : Hid _ := MX3.out; clear MX3; have M4 : Hid (At w4 (some ⟨k4, 0, none⟩) n3 (hv h3 n3)) := m4.at; have BX : Below W.heap.size W w4 := Below.up BW.out (Nat.le_refl _) bb'; clear BW; have BW : Hid (Below W.heap.size W w4) := BX; clear LB; have LB : Hid (W.heap.size ≤ w4.heap.size) := BX.size; clear BX bb'; clear b4 m4 A3
        refine hK.out _ _ (HS.out _ (BW.out)) (fun hHeld2 => ?_)
        clear hK K hHeld
        have hHeld := hHeld2
        clear hHeld2
        try simp only [Act.put, List.setIfInBounds_toArray, List.set_cons_zero, List.set_cons_succ]
        refine wpAnyH_ready (rs := [5]) (by kernel_rfl) (by simp) ?_
        refine AllReadyH.cons rfl (fun K hK => ?_) AllReadyH.nil
        go_simp
        go_at_call 67; refine Calls.mono (half_any (some ⟨k4, 0, none⟩) n3 n3 (hv h3 n3) _ P3 (by omega) (by omega) (M4.out) (hv_rg R3.out)) ?_; rintro e w5 ⟨k5, rfl, b5, m5⟩; have bb' := b5; have MX3 : Hid _ := MutK.below MX.out bb' (cell_lt (MutK.cells6 MX.out).1); clear MX; have MX : Hid _ := MX3.out; clear MX3; have M5 : Hid (At w5 (some ⟨k5, 0, none⟩) n3 (hv (hv h3 n3) n3)) := m5.at; have BX : Below W.heap.size W w5 := Below.up BW.out (Nat.le_refl _) bb'; clear BW; have BW : Hid (Below W.heap.size W w5) := BX; clear LB; have LB : Hid (W.heap.size ≤ w5.heap.size) := BX.size; clear BX bb'; clear b5 m5 M4
        refine hK.out _ _ (HS.out _ (BW.out)) (fun hHeld2 => ?_)
        clear hK K hHeld
        have hHeld := hHeld2
        clear hHeld2
        try simp only [Act.put, List.setIfInBounds_toArray, List.set_cons_zero, List.set_cons_succ]
        refine wpAnyH_ready (rs := [6]) (by kernel_rfl) (by simp) ?_
        refine AllReadyH.cons rfl (fun K hK => ?_) AllReadyH.nil
        go_simp
        go_at_call 57; refine Calls.mono (KP.out (some ⟨k5, 0, none⟩) n3 n3 (hv (hv h3 n3) n3) SE _ RF.out LF.out (by omega) (M5.out) (hv_rg (hv_rg R3.out)) (by rw [hv_val P3, hv_val P3, V3.out, rL_val, val_one]; exact SE_val)) ?_; rintro e w6 ⟨v6, rfl, ⟨h6, rfl, r6, v6⟩, b6⟩; have bb' := b6; have MX3 : Hid _ := MutK.below MX.out bb' (cell_lt (MutK.cells6 MX.out).1); clear MX; have MX : Hid _ := MX3.out; clear MX3; have R6 : Hid (Rg h6 6) := r6; have V6 : Hid (val h6 6 = sq (val f 6)) := v6; obtain ⟨m0, m1, m2, m3, m4, m5⟩ := MutK.cells6 MX.out; obtain ⟨n0, n1, n2, n3, n4, n5⟩ := MutK.free6 MX.out; have BX : Below W.heap.size W w6 := Below.up BW.out (Nat.le_refl _) bb'; clear BW; have BW : Hid (Below W.heap.size W w6) := BX; clear LB; have LB : Hid (W.heap.size ≤ w6.heap.size) := BX.size; clear BX bb'; clear b6 r6 v6 M5 R3 V3 P3
        refine hK.out _ _ (HS.out _ (BW.out)) (fun hHeld2 => ?_)
        clear hK K hHeld
        have hHeld := hHeld2
        clear hHeld2
        try simp only [Act.put, List.setIfInBounds_toArray, List.set_cons_zero, List.set_cons_succ]
        refine wpAnyH_ready (rs := [8]) (by kernel_rfl) (by simp) ?_
        refine AllReadyH.cons rfl (fun K hK => ?_) AllReadyH.nil
        go_simp
        refine hK.out _ _ (HS.out _ (below_set6 BW.out LX.out _ _ _ _ _ _)) (fun hHeld2 => ?_)
        clear hK K hHeld hHeld2
        try simp only [Act.put, List.setIfInBounds_toArray, List.set_cons_zero, List.set_cons_succ]
        refine wpAnyH_done (by kernel_rfl) ?_ _
        exact ⟨rfl, _, h6, _, _, _, _, _, _, _, _, _, _, _, _, _, _, _, _, _, _, rfl, (finB h6 BW.out MX.out LX.out).1, (finB h6 BW.out MX.out LX.out).2, R6.out, V6.out, LX.out⟩
      refine AllReadyH.cons rfl (fun K hK => ?_) AllReadyH.nil
      go_simp
      refine hK.out _ _ (HS.out _ (Below.up BW.out (Nat.le_refl _) (below_one _ _))) (fun hHeld2 => ?_)
      clear hK K hHeld
      have hHeld := hHeld2
      clear hHeld2
      try simp only [Act.put, List.setIfInBounds_toArray, List.set_cons_zero, List.set_cons_succ]
      refine wpAnyH_ready (rs := [2]) (by kernel_rfl) (by simp) ?_
      refine AllReadyH.cons rfl (fun K hK => ?_) AllReadyH.nil
      go_simp
      refine hK.out _ _ (HS.out _ (Below.up BW.out (Nat.le_refl _) (below_two _ _ _))) (fun hHeld2 => ?_)
      clear hK K hHeld
      have hHeld := hHeld2
      clear hHeld2
      try simp only [Act.put, List.setIfInBounds_toArray, List.set_cons_zero, List.set_cons_succ]
      refine wpAnyH_ready (rs := [3]) (by kernel_rfl) (by simp) ?_
      refine AllReadyH.cons rfl (fun K hK => ?_) AllReadyH.nil
      go_simp
      go_at_call 70; refine Calls.mono (refSum_any _ _ 6 1 6 1 rL (one 1) _ (by omega) (by omega) (by omega) (by omega) (AtK.below AP.out (below_two _ _ _)) (at_one2 _) rL_rg (one_rg ⟨by decide, by rw [B64_eq]; decide⟩ 1) (by omega) (by omega)) ?_; rintro e w3 ⟨v3, rfl, b3, p3, n3, c3, h3, rfl, q1, q2, q3, a3, r3, nm3, v3⟩; have bb' := (boxlit b3).1; have MX : Hid _ := (boxlit b3).2.2; have LX : Hid (W.heap.size ≤ w2.heap.size) := (by exact LB.out); have A3 : Hid (At w3 p3 n3 h3) := a3; have R3 : Hid _ := r3; have V3 : Hid _ := v3; have P3 : 0 < n3 := nm_pos v3; have BX : Below W.heap.size W w3 := Below.up BW.out (Nat.le_refl _) bb'; clear BW; have BW : Hid (Below W.heap.size W w3) := BX; clear LB; have LB : Hid (W.heap.size ≤ w3.heap.size) := BX.size; clear BX bb'; clear b3 a3 r3 v3 nm3 AP
      refine hK.out _ _ (HS.out _ (BW.out)) (fun hHeld2 => ?_)
      clear hK K hHeld
      have hHeld := hHeld2
      clear hHeld2
      try simp only [Act.put, List.setIfInBounds_toArray, List.set_cons_zero, List.set_cons_succ]
      refine wpAnyH_ready (rs := [4]) (by kernel_rfl) (by simp) ?_
      refine AllReadyH.cons rfl (fun K hK => ?_) AllReadyH.nil
      go_simp
      go_at_call 67; refine Calls.mono (half_any p3 n3 c3 h3 _ P3 (by omega) q1 (A3.out) R3.out) ?_; rintro e w4 ⟨k4, rfl, b4, m4⟩; have bb' := b4; have MX3 : Hid _ := MutK.below MX.out bb' (cell_lt (MutK.cells6 MX.out).1); clear MX; have MX : Hid _ := MX3.out; clear MX3; have M4 : Hid (At w4 (some ⟨k4, 0, none⟩) n3 (hv h3 n3)) := m4.at; have BX : Below W.heap.size W w4 := Below.up BW.out (Nat.le_refl _) bb'; clear BW; have BW : Hid (Below W.heap.size W w4) := BX; clear LB; have LB : Hid (W.heap.size ≤ w4.heap.size) := BX.size; clear BX bb'; clear b4 m4 A3
      refine hK.out _ _ (HS.out _ (BW.out)) (fun hHeld2 => ?_)
      clear hK K hHeld
      have hHeld := hHeld2
      clear hHeld2
      try simp only [Act.put, List.setIfInBounds_toArray, List.set_cons_zero, List.set_cons_succ]
      refine wpAnyH_ready (rs := [5]) (by kernel_rfl) (by simp) ?_
      refine AllReadyH.cons rfl (fun K hK => ?_) AllReadyH.nil
      go_simp
      go_at_call 67; refine Calls.mono (half_any (some ⟨k4, 0, none⟩) n3 n3 (hv h3 n3) _ P3 (by omega) (by omega) (M4.out) (hv_rg R3.out)) ?_; rintro e w5 ⟨k5, rfl, b5, m5⟩; have bb' := b5; have MX3 : Hid _ := MutK.below MX.out bb' (cell_lt (MutK.cells6 MX.out).1); clear MX; have MX : Hid _ := MX3.out; clear MX3; have M5 : Hid (At w5 (some ⟨k5, 0, none⟩) n3 (hv (hv h3 n3) n3)) := m5.at; have BX : Below W.heap.size W w5 := Below.up BW.out (Nat.le_refl _) bb'; clear BW; have BW : Hid (Below W.heap.size W w5) := BX; clear LB; have LB : Hid (W.heap.size ≤ w5.heap.size) := BX.size; clear BX bb'; clear b5 m5 M4
      refine hK.out _ _ (HS.out _ (BW.out)) (fun hHeld2 => ?_)
      clear hK K hHeld
      have hHeld := hHeld2
      clear hHeld2
      try simp only [Act.put, List.setIfInBounds_toArray, List.set_cons_zero, List.set_cons_succ]
      refine wpAnyH_ready (rs := [6]) (by kernel_rfl) (by simp) ?_
      refine AllReadyH.cons rfl (fun K hK => ?_) AllReadyH.nil
      go_simp
      go_at_call 57; refine Calls.mono (KP.out (some ⟨k5, 0, none⟩) n3 n3 (hv (hv h3 n3) n3) SE _ RF.out LF.out (by omega) (M5.out) (hv_rg (hv_rg R3.out)) (by rw [hv_val P3, hv_val P3, V3.out, rL_val, val_one]; exact SE_val)) ?_; rintro e w6 ⟨v6, rfl, ⟨h6, rfl, r6, v6⟩, b6⟩; have bb' := b6; have MX3 : Hid _ := MutK.below MX.out bb' (cell_lt (MutK.cells6 MX.out).1); clear MX; have MX : Hid _ := MX3.out; clear MX3; have R6 : Hid (Rg h6 6) := r6; have V6 : Hid (val h6 6 = sq (val f 6)) := v6; obtain ⟨m0, m1, m2, m3, m4, m5⟩ := MutK.cells6 MX.out; obtain ⟨n0, n1, n2, n3, n4, n5⟩ := MutK.free6 MX.out; have BX : Below W.heap.size W w6 := Below.up BW.out (Nat.le_refl _) bb'; clear BW; have BW : Hid (Below W.heap.size W w6) := BX; clear LB; have LB : Hid (W.heap.size ≤ w6.heap.size) := BX.size; clear BX bb'; clear b6 r6 v6 M5 R3 V3 P3
      refine hK.out _ _ (HS.out _ (BW.out)) (fun hHeld2 => ?_)
      clear hK K hHeld
      have hHeld := hHeld2
      clear hHeld2
      try simp only [Act.put, List.setIfInBounds_toArray, List.set_cons_zero, List.set_cons_succ]
      refine wpAnyH_ready (rs := [8]) (by kernel_rfl) (by simp) ?_
      refine AllReadyH.cons rfl (fun K hK => ?_) AllReadyH.nil
      go_simp
      refine hK.out _ _ (HS.out _ (below_set6 BW.out LX.out _ _ _ _ _ _)) (fun hHeld2 => ?_)
      clear hK K hHeld hHeld2
      try simp only [Act.put, List.setIfInBounds_toArray, List.set_cons_zero, List.set_cons_succ]
      refine wpAnyH_done (by kernel_rfl) ?_ _
      exact ⟨rfl, _, h6, _, _, _, _, _, _, _, _, _, _, _, _, _, _, _, _, _, _, rfl, (finB h6 BW.out MX.out LX.out).1, (finB h6 BW.out MX.out LX.out).2, R6.out, V6.out, LX.out⟩
    refine AllReadyH.cons rfl (fun K hK => ?_) ?_
    · go_simp
      refine hK.out _ _ (HS.out _ (Below.drew (below_one _ _))) (fun hHeld2 => ?_)
      clear hK K hHeld
      have hHeld := hHeld2
      clear hHeld2
      try simp only [Act.put, List.setIfInBounds_toArray, List.set_cons_zero, List.set_cons_succ]
      refine wpAnyH_ready (rs := [1, 7]) (by kernel_rfl) (by simp) ?_
      refine AllReadyH.cons rfl (fun K hK => ?_) ?_
      · go_simp
        go_at_call 28; refine Calls.mono (refP_new _) ?_; rintro e w2 ⟨k2, rfl, b2, a2⟩; have bb' := (lit1 (below_drew b2)).1; have ML : Hid _ := (lit1 (below_drew b2)).2; have AP : Hid (At w2 (some ⟨k2, 0, none⟩) 6 rL) := a2; have BX : Below W.heap.size W w2 := Below.up BW.out (Nat.le_refl _) bb'; clear BW; have BW : Hid (Below W.heap.size W w2) := BX; clear LB; have LB : Hid (W.heap.size ≤ w2.heap.size) := BX.size; clear BX bb'; clear b2 a2
        refine hK.out _ _ (HS.out _ (BW.out)) (fun hHeld2 => ?_)
        clear hK K hHeld
        have hHeld := hHeld2
        clear hHeld2
        try simp only [Act.put, List.setIfInBounds_toArray, List.set_cons_zero, List.set_cons_succ]
        refine wpAnyH_ready (rs := [3, 7]) (by kernel_rfl) (by simp) ?_
        refine AllReadyH.cons rfl (fun K hK => ?_) ?_
        · go_simp
          go_at_call 70; refine Calls.mono (refSum_any _ _ 6 1 6 1 rL (one 1) _ (by omega) (by omega) (by omega) (by omega) (AP.out) (ML.out) rL_rg (one_rg ⟨by decide, by rw [B64_eq]; decide⟩ 1) (by omega) (by omega)) ?_; rintro e w3 ⟨v3, rfl, b3, p3, n3, c3, h3, rfl, q1, q2, q3, a3, r3, nm3, v3⟩; have bb' := b3; clear ML; have A3 : Hid (At w3 p3 n3 h3) := a3; have R3 : Hid _ := r3; have V3 : Hid _ := v3; have P3 : 0 < n3 := nm_pos v3; have BX : Below W.heap.size W w3 := Below.up BW.out (Nat.le_refl _) bb'; clear BW; have BW : Hid (Below W.heap.size W w3) := BX; clear LB; have LB : Hid (W.heap.size ≤ w3.heap.size) := BX.size; clear BX bb'; clear b3 a3 r3 v3 nm3 AP
          refine hK.out _ _ (HS.out _ (BW.out)) (fun hHeld2 => ?_)
          clear hK K hHeld
          have hHeld := hHeld2
          clear hHeld2
          try simp only [Act.put, List.setIfInBounds_toArray, List.set_cons_zero, List.set_cons_succ]
          refine wpAnyH_ready (rs := [4, 7]) (by kernel_rfl) (by simp) ?_
          refine AllReadyH.cons rfl (fun K hK => ?_) ?_
          · go_simp
            go_at_call 67; refine Calls.mono (half_any p3 n3 c3 h3 _ P3 (by omega) q1 (A3.out) R3.out) ?_; rintro e w4 ⟨k4, rfl, b4, m4⟩; have bb' := b4; have M4 : Hid (At w4 (some ⟨k4, 0, none⟩) n3 (hv h3 n3)) := m4.at; have BX : Below W.heap.size W w4 := Below.up BW.out (Nat.le_refl _) bb'; clear BW; have BW : Hid (Below W.heap.size W w4) := BX; clear LB; have LB : Hid (W.heap.size ≤ w4.heap.size) := BX.size; clear BX bb'; clear b4 m4 A3
            refine hK.out _ _ (HS.out _ (BW.out)) (fun hHeld2 => ?_)
            clear hK K hHeld
            have hHeld := hHeld2
            clear hHeld2
            try simp only [Act.put, List.setIfInBounds_toArray, List.set_cons_zero, List.set_cons_succ]
            refine wpAnyH_ready (rs := [5, 7]) (by kernel_rfl) (by simp) ?_
            refine AllReadyH.cons rfl (fun K hK => ?_) ?_
            · go_simp
              go_at_call 67; refine Calls.mono (half_any (some ⟨k4, 0, none⟩) n3 n3 (hv h3 n3) _ P3 (by omega) (by omega) (M4.out) (hv_rg R3.out)) ?_; rintro e w5 ⟨k5, rfl, b5, m5⟩; have bb' := b5; have M5 : Hid (At w5 (some ⟨k5, 0, none⟩) n3 (hv (hv h3 n3) n3)) := m5.at; have BX : Below W.heap.size W w5 := Below.up BW.out (Nat.le_refl _) bb'; clear BW; have BW : Hid (Below W.heap.size W w5) := BX; clear LB; have LB : Hid (W.heap.size ≤ w5.heap.size) := BX.size; clear BX bb'; clear b5 m5 M4
              refine hK.out _ _ (HS.out _ (BW.out)) (fun hHeld2 => ?_)
              clear hK K hHeld
              have hHeld := hHeld2
              clear hHeld2
              try simp only [Act.put, List.setIfInBounds_toArray, List.set_cons_zero, List.set_cons_succ]
              refine wpAnyH_ready (rs := [6, 7]) (by kernel_rfl) (by simp) ?_
              refine AllReadyH.cons rfl (fun K hK => ?_) ?_
              · go_simp
                go_at_call 57; refine Calls.mono (KP.out (some ⟨k5, 0, none⟩) n3 n3 (hv (hv h3 n3) n3) SE _ RF.out LF.out (by omega) (M5.out) (hv_rg (hv_rg R3.out)) (by rw [hv_val P3, hv_val P3, V3.out, rL_val, val_one]; exact SE_val)) ?_; rintro e w6 ⟨v6, rfl, ⟨h6, rfl, r6, v6⟩, b6⟩; have bb' := b6; have R6 : Hid (Rg h6 6) := r6; have V6 : Hid (val h6 6 = sq (val f 6)) := v6; have BX : Below W.heap.size W w6 := Below.up BW.out (Nat.le_refl _) bb'; clear BW; have BW : Hid (Below W.heap.size W w6) := BX; clear LB; have LB : Hid (W.heap.size ≤ w6.heap.size) := BX.size; clear BX bb'; clear b6 r6 v6 M5 R3 V3 P3
                refine hK.out _ _ (HS.out _ (BW.out)) (fun hHeld2 => ?_)
                clear hK K hHeld
                have hHeld := hHeld2
                clear hHeld2
                try simp only [Act.put, List.setIfInBounds_toArray, List.set_cons_zero, List.set_cons_succ]
                refine wpAnyH_ready (rs := [7]) (by kernel_rfl) (by simp) ?_
                refine AllReadyH.cons rfl (fun K hK => ?_) AllReadyH.nil
                go_simp
                refine hK.out _ _ (HS.out _ (Below.up BW.out (Nat.le_refl _) (below_one _ _))) (fun hHeld2 => ?_)
                clear hK K hHeld
                have hHeld := hHeld2
                clear hHeld2
                try simp only [Act.put, List.setIfInBounds_toArray, List.set_cons_zero, List.set_cons_succ]
                refine wpAnyH_ready (rs := [8]) (by kernel_rfl) (by simp) ?_
                refine AllReadyH.cons rfl (fun K hK => ?_) AllReadyH.nil
                go_simp
                refine hK.out _ _ (HS.out _ ((finA h6 BW.out).1)) (fun hHeld2 => ?_)
                clear hK K hHeld hHeld2
                try simp only [Act.put, List.setIfInBounds_toArray, List.set_cons_zero, List.set_cons_succ]
                refine wpAnyH_done (by kernel_rfl) ?_ _
                exact ⟨rfl, _, h6, _, _, _, _, _, _, _, _, _, _, _, _, _, _, _, _, _, _, rfl, (finA h6 BW.out).1, (finA h6 BW.out).2, R6.out, V6.out, LB.out⟩
              refine AllReadyH.cons rfl (fun K hK => ?_) AllReadyH.nil
              go_simp
              refine hK.out _ _ (HS.out _ (Below.up BW.out (Nat.le_refl _) (below_one _ _))) (fun hHeld2 => ?_)
              clear hK K hHeld
              have hHeld := hHeld2
              clear hHeld2
              try simp only [Act.put, List.setIfInBounds_toArray, List.set_cons_zero, List.set_cons_succ]
              refine wpAnyH_ready (rs := [6]) (by kernel_rfl) (by simp) ?_
              refine AllReadyH.cons rfl (fun K hK => ?_) AllReadyH.nil
              go_simp
              go_at_call 57; refine Calls.mono (KP.out (some ⟨k5, 0, none⟩) n3 n3 (hv (hv h3 n3) n3) SE _ RF.out LF.out (by omega) (AtK.below M5.out (below_one _ _)) (hv_rg (hv_rg R3.out)) (by rw [hv_val P3, hv_val P3, V3.out, rL_val, val_one]; exact SE_val)) ?_; rintro e w6 ⟨v6, rfl, ⟨h6, rfl, r6, v6⟩, b6⟩; have bb' := (box1 b6).1; have MX : Hid _ := (box1 b6).2; have LX : Hid (W.heap.size ≤ w5.heap.size) := (by exact LB.out); have R6 : Hid (Rg h6 6) := r6; have V6 : Hid (val h6 6 = sq (val f 6)) := v6; obtain ⟨m0, m1, m2, m3, m4, m5⟩ := MutK.cells6 MX.out; obtain ⟨n0, n1, n2, n3, n4, n5⟩ := MutK.free6 MX.out; have BX : Below W.heap.size W w6 := Below.up BW.out (Nat.le_refl _) bb'; clear BW; have BW : Hid (Below W.heap.size W w6) := BX; clear LB; have LB : Hid (W.heap.size ≤ w6.heap.size) := BX.size; clear BX bb'; clear b6 r6 v6 M5 R3 V3 P3
              refine hK.out _ _ (HS.out _ (BW.out)) (fun hHeld2 => ?_)
              clear hK K hHeld
              have hHeld := hHeld2
              clear hHeld2
              try simp only [Act.put, List.setIfInBounds_toArray, List.set_cons_zero, List.set_cons_succ]
              refine wpAnyH_ready (rs := [8]) (by kernel_rfl) (by simp) ?_
              refine AllReadyH.cons rfl (fun K hK => ?_) AllReadyH.nil
              go_simp
              refine hK.out _ _ (HS.out _ (below_set6 BW.out LX.out _ _ _ _ _ _)) (fun hHeld2 => ?_)
              clear hK K hHeld hHeld2
              try simp only [Act.put, List.setIfInBounds_toArray, List.set_cons_zero, List.set_cons_succ]
              refine wpAnyH_done (by kernel_rfl) ?_ _
              exact ⟨rfl, _, h6, _, _, _, _, _, _, _, _, _, _, _, _, _, _, _, _, _, _, rfl, (finB h6 BW.out MX.out LX.out).1, (finB h6 BW.out MX.out LX.out).2, R6.out, V6.out, LX.out⟩
            refine AllReadyH.cons rfl (fun K hK => ?_) AllReadyH.nil
            go_simp
            refine hK.out _ _ (HS.out _ (Below.up BW.out (Nat.le_refl _) (below_one _ _))) (fun hHeld2 => ?_)
            clear hK K hHeld
            have hHeld := hHeld2
            clear hHeld2
            try simp only [Act.put, List.setIfInBounds_toArray, List.set_cons_zero, List.set_cons_succ]
            refine wpAnyH_ready (rs := [5]) (by kernel_rfl) (by simp) ?_
            refine AllReadyH.cons rfl (fun K hK => ?_) AllReadyH.nil
            go_simp
            go_at_call 67; refine Calls.mono (half_any (some ⟨k4, 0, none⟩) n3 n3 (hv h3 n3) _ P3 (by omega) (by omega) (AtK.below M4.out (below_one _ _)) (hv_rg R3.out)) ?_; rintro e w5 ⟨k5, rfl, b5, m5⟩; have bb' := (box1 b5).1; have MX : Hid _ := (box1 b5).2; have LX : Hid (W.heap.size ≤ w4.heap.size) := (by exact LB.out); have M5 : Hid (At w5 (some ⟨k5, 0, none⟩) n3 (hv (hv h3 n3) n3)) := m5.at; have BX : Below W.heap.size W w5 := Below.up BW.out (Nat.le_refl _) bb'; clear BW; have BW : Hid (Below W.heap.size W w5) := BX; clear LB; have LB : Hid (W.heap.size ≤ w5.heap.size) := BX.size; clear BX bb'; clear b5 m5 M4
            refine hK.out _ _ (HS.out _ (BW.out)) (fun hHeld2 => ?_)
            clear hK K hHeld
            have hHeld := hHeld2
            clear hHeld2
            try simp only [Act.put, List.setIfInBounds_toArray, List.set_cons_zero, List.set_cons_succ]
            refine wpAnyH_ready (rs := [6]) (by kernel_rfl) (by simp) ?_
            refine AllReadyH.cons rfl (fun K hK => ?_) AllReadyH.nil
            go_simp
            go_at_call 57; refine Calls.mono (KP.out (some ⟨k5, 0, none⟩) n3 n3 (hv (hv h3 n3) n3) SE _ RF.out LF.out (by omega) (M5.out) (hv_rg (hv_rg R3.out)) (by rw [hv_val P3, hv_val P3, V3.out, rL_val, val_one]; exact SE_val)) ?_; rintro e w6 ⟨v6, rfl, ⟨h6, rfl, r6, v6⟩, b6⟩; have bb' := b6; have MX3 : Hid _ := MutK.below MX.out bb' (cell_lt (MutK.cells6 MX.out).1); clear MX; have MX : Hid _ := MX3.out; clear MX3; have R6 : Hid (Rg h6 6) := r6; have V6 : Hid (val h6 6 = sq (val f 6)) := v6; obtain ⟨m0, m1, m2, m3, m4, m5⟩ := MutK.cells6 MX.out; obtain ⟨n0, n1, n2, n3, n4, n5⟩ := MutK.free6 MX.out; have BX : Below W.heap.size W w6 := Below.up BW.out (Nat.le_refl _) bb'; clear BW; have BW : Hid (Below W.heap.size W w6) := BX; clear LB; have LB : Hid (W.heap.size ≤ w6.heap.size) := BX.size; clear BX bb'; clear b6 r6 v6 M5 R3 V3 P3
            refine hK.out _ _ (HS.out _ (BW.out)) (fun hHeld2 => ?_)
            clear hK K hHeld
            have hHeld := hHeld2
            clear hHeld2
            try simp only [Act.put, List.setIfInBounds_toArray, List.set_cons_zero, List.set_cons_succ]
            refine wpAnyH_ready (rs := [8]) (by kernel_rfl) (by simp) ?_
            refine AllReadyH.cons rfl (fun K hK => ?_) AllReadyH.nil
            go_simp
            refine hK.out _ _ (HS.out _ (below_set6 BW.out LX.out _ _ _ _ _ _)) (fun hHeld2 => ?_)
            clear hK K hHeld hHeld2
            try simp only [Act.put, List.setIfInBounds_toArray, List.set_cons_zero, List.set_cons_succ]
            refine wpAnyH_done (by kernel_rfl) ?_ _
            exact ⟨rfl, _, h6, _, _, _, _, _, _, _, _, _, _, _, _, _, _, _, _, _, _, rfl, (finB h6 BW.out MX.out LX.out).1, (finB h6 BW.out MX.out LX.out).2, R6.out, V6.out, LX.out⟩
          refine AllReadyH.cons rfl (fun K hK => ?_) AllReadyH.nil
          go_simp
          refine hK.out _ _ (HS.out _ (Below.up BW.out (Nat.le_refl _) (below_one _ _))) (fun hHeld2 => ?_)
          clear hK K hHeld
          have hHeld := hHeld2
          clear hHeld2
          try simp only [Act.put, List.setIfInBounds_toArray, List.set_cons_zero, List.set_cons_succ]
          refine wpAnyH_ready (rs := [4]) (by kernel_rfl) (by simp) ?_
          refine AllReadyH.cons rfl (fun K hK => ?_) AllReadyH.nil
          go_simp
          go_at_call 67; refine Calls.mono (half_any p3 n3 c3 h3 _ P3 (by omega) q1 (AtK.below A3.out (below_one _ _)) R3.out) ?_; rintro e w4 ⟨k4, rfl, b4, m4⟩; have bb' := (box1 b4).1; have MX : Hid _ := (box1 b4).2; have LX : Hid (W.heap.size ≤ w3.heap.size) := (by exact LB.out); have M4 : Hid (At w4 (some ⟨k4, 0, none⟩) n3 (hv h3 n3)) := m4.at; have BX : Below W.heap.size W w4 := Below.up BW.out (Nat.le_refl _) bb'; clear BW; have BW : Hid (Below W.heap.size W w4) := BX; clear LB; have LB : Hid (W.heap.size ≤ w4.heap.size) := BX.size; clear BX bb'; clear b4 m4 A3
          refine hK.out _ _ (HS.out _ (BW.out)) (fun hHeld2 => ?_)
          clear hK K hHeld
          have hHeld := hHeld2
          clear hHeld2
          try simp only [Act.put, List.setIfInBounds_toArray, List.set_cons_zero, List.set_cons_succ]
          refine wpAnyH_ready (rs := [5]) (by kernel_rfl) (by simp) ?_
          refine AllReadyH.cons rfl (fun K hK => ?_) AllReadyH.nil
          go_simp
          go_at_call 67; refine Calls.mono (half_any (some ⟨k4, 0, none⟩) n3 n3 (hv h3 n3) _ P3 (by omega) (by omega) (M4.out) (hv_rg R3.out)) ?_; rintro e w5 ⟨k5, rfl, b5, m5⟩; have bb' := b5; have MX3 : Hid _ := MutK.below MX.out bb' (cell_lt (MutK.cells6 MX.out).1); clear MX; have MX : Hid _ := MX3.out; clear MX3; have M5 : Hid (At w5 (some ⟨k5, 0, none⟩) n3 (hv (hv h3 n3) n3)) := m5.at; have BX : Below W.heap.size W w5 := Below.up BW.out (Nat.le_refl _) bb'; clear BW; have BW : Hid (Below W.heap.size W w5) := BX; clear LB; have LB : Hid (W.heap.size ≤ w5.heap.size) := BX.size; clear BX bb'; clear b5 m5 M4
          refine hK.out _ _ (HS.out _ (BW.out)) (fun hHeld2 => ?_)
          clear hK K hHeld
          have hHeld := hHeld2
          clear hHeld2
          try simp only [Act.put, List.setIfInBounds_toArray, List.set_cons_zero, List.set_cons_succ]
          refine wpAnyH_ready (rs := [6]) (by kernel_rfl) (by simp) ?_
          refine AllReadyH.cons rfl (fun K hK => ?_) AllReadyH.nil
          go_simp
          go_at_call 57; refine Calls.mono (KP.out (some ⟨k5, 0, none⟩) n3 n3 (hv (hv h3 n3) n3) SE _ RF.out LF.out (by omega) (M5.out) (hv_rg (hv_rg R3.out)) (by rw [hv_val P3, hv_val P3, V3.out, rL_val, val_one]; exact SE_val)) ?_; rintro e w6 ⟨v6, rfl, ⟨h6, rfl, r6, v6⟩, b6⟩; have bb' := b6; have MX3 : Hid _ := MutK.below MX.out bb' (cell_lt (MutK.cells6 MX.out).1); clear MX; have MX : Hid _ := MX3.out; clear MX3; have R6 : Hid (Rg h6 6) := r6; have V6 : Hid (val h6 6 = sq (val f 6)) := v6; obtain ⟨m0, m1, m2, m3, m4, m5⟩ := MutK.cells6 MX.out; obtain ⟨n0, n1, n2, n3, n4, n5⟩ := MutK.free6 MX.out; have BX : Below W.heap.size W w6 := Below.up BW.out (Nat.le_refl _) bb'; clear BW; have BW : Hid (Below W.heap.size W w6) := BX; clear LB; have LB : Hid (W.heap.size ≤ w6.heap.size) := BX.size; clear BX bb'; clear b6 r6 v6 M5 R3 V3 P3
          refine hK.out _ _ (HS.out _ (BW.out)) (fun hHeld2 => ?_)
          clear hK K hHeld
          have hHeld := hHeld2
          clear hHeld2
          try simp only [Act.put, List.setIfInBounds_toArray, List.set_cons_zero, List.set_cons_succ]
          refine wpAnyH_ready (rs := [8]) (by kernel_rfl) (by simp) ?_
          refine AllReadyH.cons rfl (fun K hK => ?_) AllReadyH.nil
          go_simp
          refine hK.out _ _ (HS.out _ (below_set6 BW.out LX.out _ _ _ _ _ _)) (fun hHeld2 => ?_)
          clear hK K hHeld hHeld2
          try simp only [Act.put, List.setIfInBounds_toArray, List.set_cons_zero, List.set_cons_succ]
          refine wpAnyH_done (by kernel_rfl) ?_ _
          exact ⟨rfl, _, h6, _, _, _, _, _, _, _, _, _, _, _, _, _, _, _, _, _, _, rfl, (finB h6 BW.out MX.out LX.out).1, (finB h6 BW.out MX.out LX.out).2, R6.out, V6.out, LX.out⟩
        refine AllReadyH.cons rfl (fun K hK => ?_) AllReadyH.nil
        go_simp
        refine hK.out _ _ (HS.out _ (Below.up BW.out (Nat.le_refl _) (below_one _ _))) (fun hHeld2 => ?_)
        clear hK K hHeld
        have hHeld := hHeld2
        clear hHeld2
        try simp only [Act.put, List.setIfInBounds_toArray, List.set_cons_zero, List.set_cons_succ]
        refine wpAnyH_ready (rs := [3]) (by kernel_rfl) (by simp) ?_
        refine AllReadyH.cons rfl (fun K hK => ?_) AllReadyH.nil
        go_simp
        go_at_call 70; refine Calls.mono (refSum_any _ _ 6 1 6 1 rL (one 1) _ (by omega) (by omega) (by omega) (by omega) (AtK.below AP.out (below_one _ _)) (AtK.below ML.out (below_one _ _)) rL_rg (one_rg ⟨by decide, by rw [B64_eq]; decide⟩ 1) (by omega) (by omega)) ?_; rintro e w3 ⟨v3, rfl, b3, p3, n3, c3, h3, rfl, q1, q2, q3, a3, r3, nm3, v3⟩; have bb' := (box1 b3).1; have MX : Hid _ := (box1 b3).2; have LX : Hid (W.heap.size ≤ w2.heap.size) := (by exact LB.out); clear ML; have A3 : Hid (At w3 p3 n3 h3) := a3; have R3 : Hid _ := r3; have V3 : Hid _ := v3; have P3 : 0 < n3 := nm_pos v3; have BX : Below W.heap.size W w3 := Below.up BW.out (Nat.le_refl _) bb'; clear BW; have BW : Hid (Below W.heap.size W w3) := BX; clear LB; have LB : Hid (W.heap.size ≤ w3.heap.size) := BX.size; clear BX bb'; clear b3 a3 r3 v3 nm3 AP
        refine hK.out _ _ (HS.out _ (BW.out)) (fun hHeld2 => ?_)
        clear hK K hHeld
        have hHeld := hHeld2
        clear hHeld2
        try simp only [Act.put, List.setIfInBounds_toArray, List.set_cons_zero, List.set_cons_succ]
        refine wpAnyH_ready (rs := [4]) (by kernel_rfl) (by simp) ?_
        refine AllReadyH.cons rfl (fun K hK => ?_) AllReadyH.nil
        go_simp
        go_at_call 67; refine Calls.mono (half_any p3 n3 c3 h3 _ P3 (by omega) q1 (A3.out) R3.out) ?_; rintro e w4 ⟨k4, rfl, b4, m4⟩; have bb' := b4; have MX3 : Hid _ := MutK.below MX.out bb' (cell_lt (MutK.cells6 MX.out).1); clear MX; have MX : Hid _ := MX3.out; clear MX3; have M4 : Hid (At w4 (some ⟨k4, 0, none⟩) n3 (hv h3 n3)) := m4.at; have BX : Below W.heap.size W w4 := Below.up BW.out (Nat.le_refl _) bb'; clear BW; have BW : Hid (Below W.heap.size W w4) := BX; clear LB; have LB : Hid (W.heap.size ≤ w4.heap.size) := BX.size; clear BX bb'; clear b4 m4 A3
        refine hK.out _ _ (HS.out _ (BW.out)) (fun hHeld2 => ?_)
        clear hK K hHeld
        have hHeld := hHeld2
        clear hHeld2
        try simp only [Act.put, List.setIfInBounds_toArray, List.set_cons_zero, List.set_cons_succ]
        refine wpAnyH_ready (rs := [5]) (by kernel_rfl) (by simp) ?_
        refine AllReadyH.cons rfl (fun K hK => ?_) AllReadyH.nil
        go_simp
        go_at_call 67; refine Calls.mono (half_any (some ⟨k4, 0, none⟩) n3 n3 (hv h3 n3) _ P3 (by omega) (by omega) (M4.out) (hv_rg R3.out)) ?_; rintro e w5 ⟨k5, rfl, b5, m5⟩; have bb' := b5; have MX3 : Hid _ := MutK.below MX.out bb' (cell_lt (MutK.cells6 MX.out).1); clear MX; have MX : Hid _ := MX3.out; clear MX3; have M5 : Hid (At w5 (some ⟨k5, 0, none⟩) n3 (hv (hv h3 n3) n3)) := m5.at; have BX : Below W.heap.size W w5 := Below.up BW.out (Nat.le_refl _) bb'; clear BW; have BW : Hid (Below W.heap.size W w5) := BX; clear LB; have LB : Hid (W.heap.size ≤ w5.heap.size) := BX.size; clear BX bb'; clear b5 m5 M4
        refine hK.out _ _ (HS.out _ (BW.out)) (fun hHeld2 => ?_)
        clear hK K hHeld
        have hHeld := hHeld2
        clear hHeld2
        try simp only [Act.put, List.setIfInBounds_toArray, List.set_cons_zero, List.set_cons_succ]
        refine wpAnyH_ready (rs := [6]) (by kernel_rfl) (by simp) ?_
        refine AllReadyH.cons rfl (fun K hK => ?_) AllReadyH.nil
        go_simp
        go_at_call 57; refine Calls.mono (KP.out (some ⟨k5, 0, none⟩) n3 n3 (hv (hv h3 n3) n3) SE _ RF.out LF.out (by omega) (M5.out) (hv_rg (hv_rg R3.out)) (by rw [hv_val P3, hv_val P3, V3.out, rL_val, val_one]; exact SE_val)) ?_; rintro e w6 ⟨v6, rfl, ⟨h6, rfl, r6, v6⟩, b6⟩; have bb' := b6; have MX3 : Hid _ := MutK.below MX.out bb' (cell_lt (MutK.cells6 MX.out).1); clear MX; have MX : Hid _ := MX3.out; clear MX3; have R6 : Hid (Rg h6 6) := r6; have V6 : Hid (val h6 6 = sq (val f 6)) := v6; obtain ⟨m0, m1, m2, m3, m4, m5⟩ := MutK.cells6 MX.out; obtain ⟨n0, n1, n2, n3, n4, n5⟩ := MutK.free6 MX.out; have BX : Below W.heap.size W w6 := Below.up BW.out (Nat.le_refl _) bb'; clear BW; have BW : Hid (Below W.heap.size W w6) := BX; clear LB; have LB : Hid (W.heap.size ≤ w6.heap.size) := BX.size; clear BX bb'; clear b6 r6 v6 M5 R3 V3 P3
        refine hK.out _ _ (HS.out _ (BW.out)) (fun hHeld2 => ?_)
        clear hK K hHeld
        have hHeld := hHeld2
        clear hHeld2
        try simp only [Act.put, List.setIfInBounds_toArray, List.set_cons_zero, List.set_cons_succ]
        refine wpAnyH_ready (rs := [8]) (by kernel_rfl) (by simp) ?_
        refine AllReadyH.cons rfl (fun K hK => ?_) AllReadyH.nil
        go_simp
        refine hK.out _ _ (HS.out _ (below_set6 BW.out LX.out _ _ _ _ _ _)) (fun hHeld2 => ?_)
        clear hK K hHeld hHeld2
        try simp only [Act.put, List.setIfInBounds_toArray, List.set_cons_zero, List.set_cons_succ]
        refine wpAnyH_done (by kernel_rfl) ?_ _
        exact ⟨rfl, _, h6, _, _, _, _, _, _, _, _, _, _, _, _, _, _, _, _, _, _, rfl, (finB h6 BW.out MX.out LX.out).1, (finB h6 BW.out MX.out LX.out).2, R6.out, V6.out, LX.out⟩
      refine AllReadyH.cons rfl (fun K hK => ?_) AllReadyH.nil
      go_simp
      refine hK.out _ _ (HS.out _ (Below.drew (below_two _ _ _))) (fun hHeld2 => ?_)
      clear hK K hHeld
      have hHeld := hHeld2
      clear hHeld2
      try simp only [Act.put, List.setIfInBounds_toArray, List.set_cons_zero, List.set_cons_succ]
      refine wpAnyH_ready (rs := [1]) (by kernel_rfl) (by simp) ?_
      refine AllReadyH.cons rfl (fun K hK => ?_) AllReadyH.nil
      go_simp
      go_at_call 28; refine Calls.mono (refP_new _) ?_; rintro e w2 ⟨k2, rfl, b2, a2⟩; have bb' := (litbox (below_drew b2)).1; have ML : Hid _ := (litbox (below_drew b2)).2.1; have MX : Hid _ := (litbox (below_drew b2)).2.2; have LX : Hid (W.heap.size ≤ W.heap.size + 1) := Nat.le_succ_of_le LB.out; have AP : Hid (At w2 (some ⟨k2, 0, none⟩) 6 rL) := a2; have BX : Below W.heap.size W w2 := Below.up BW.out (Nat.le_refl _) bb'; clear BW; have BW : Hid (Below W.heap.size W w2) := BX; clear LB; have LB : Hid (W.heap.size ≤ w2.heap.size) := BX.size; clear BX bb'; clear b2 a2
      refine hK.out _ _ (HS.out _ (BW.out)) (fun hHeld2 => ?_)
      clear hK K hHeld
      have hHeld := hHeld2
      clear hHeld2
      try simp only [Act.put, List.setIfInBounds_toArray, List.set_cons_zero, List.set_cons_succ]
      refine wpAnyH_ready (rs := [3]) (by kernel_rfl) (by simp) ?_
      refine AllReadyH.cons rfl (fun K hK => ?_) AllReadyH.nil
      go_simp
      go_at_call 70; refine Calls.mono (refSum_any _ _ 6 1 6 1 rL (one 1) _ (by omega) (by omega) (by omega) (by omega) (AP.out) (ML.out) rL_rg (one_rg ⟨by decide, by rw [B64_eq]; decide⟩ 1) (by omega) (by omega)) ?_; rintro e w3 ⟨v3, rfl, b3, p3, n3, c3, h3, rfl, q1, q2, q3, a3, r3, nm3, v3⟩; have bb' := b3; have MX3 : Hid _ := MutK.below MX.out bb' (cell_lt (MutK.cells6 MX.out).1); clear MX; have MX : Hid _ := MX3.out; clear MX3; clear ML; have A3 : Hid (At w3 p3 n3 h3) := a3; have R3 : Hid _ := r3; have V3 : Hid _ := v3; have P3 : 0 < n3 := nm_pos v3; have BX : Below W.heap.size W w3 := Below.up BW.out (Nat.le_refl _) bb'; clear BW; have BW : Hid (Below W.heap.size W w3) := BX; clear LB; have LB : Hid (W.heap.size ≤ w3.heap.size) := BX.size; clear BX bb'; clear b3 a3 r3 v3 nm3 AP
      refine hK.out _ _ (HS.out _ (BW.out)) (fun hHeld2 => ?_)
      clear hK K hHeld
      have hHeld := hHeld2
      clear hHeld2
      try simp only [Act.put, List.setIfInBounds_toArray, List.set_cons_zero, List.set_cons_succ]
      refine wpAnyH_ready (rs := [4]) (by kernel_rfl) (by simp) ?_
      refine AllReadyH.cons rfl (fun K hK => ?_) AllReadyH.nil
      go_simp
      go_at_call 67; refine Calls.mono (half_any p3 n3 c3 h3 _ P3 (by omega) q1 (A3.out) R3.out) ?_; rintro e w4 ⟨k4, rfl, b4, m4⟩; have bb' := b4; have MX3 : Hid _ := MutK.below MX.out bb' (cell_lt (MutK.cells6 MX.out).1); clear MX; have MX : Hid _ := MX3.out; clear MX3; have M4 : Hid (At w4 (some ⟨k4, 0, none⟩) n3 (hv h3 n3)) := m4.at; have BX : Below W.heap.size W w4 := Below.up BW.out (Nat.le_refl _) bb'; clear BW; have BW : Hid (Below W.heap.size W w4) := BX; clear LB; have LB : Hid (W.heap.size ≤ w4.heap.size) := BX.size; clear BX bb'; clear b4 m4 A3
      refine hK.out _ _ (HS.out _ (BW.out)) (fun hHeld2 => ?_)
      clear hK K hHeld
      have hHeld := hHeld2
      clear hHeld2
      try simp only [Act.put, List.setIfInBounds_toArray, List.set_cons_zero, List.set_cons_succ]
      refine wpAnyH_ready (rs := [5]) (by kernel_rfl) (by simp) ?_
      refine AllReadyH.cons rfl (fun K hK => ?_) AllReadyH.nil
      go_simp
      go_at_call 67; refine Calls.mono (half_any (some ⟨k4, 0, none⟩) n3 n3 (hv h3 n3) _ P3 (by omega) (by omega) (M4.out) (hv_rg R3.out)) ?_; rintro e w5 ⟨k5, rfl, b5, m5⟩; have bb' := b5; have MX3 : Hid _ := MutK.below MX.out bb' (cell_lt (MutK.cells6 MX.out).1); clear MX; have MX : Hid _ := MX3.out; clear MX3; have M5 : Hid (At w5 (some ⟨k5, 0, none⟩) n3 (hv (hv h3 n3) n3)) := m5.at; have BX : Below W.heap.size W w5 := Below.up BW.out (Nat.le_refl _) bb'; clear BW; have BW : Hid (Below W.heap.size W w5) := BX; clear LB; have LB : Hid (W.heap.size ≤ w5.heap.size) := BX.size; clear BX bb'; clear b5 m5 M4
      refine hK.out _ _ (HS.out _ (BW.out)) (fun hHeld2 => ?_)
      clear hK K hHeld
      have hHeld := hHeld2
      clear hHeld2
      try simp only [Act.put, List.setIfInBounds_toArray, List.set_cons_zero, List.set_cons_succ]
      refine wpAnyH_ready (rs := [6]) (by kernel_rfl) (by simp) ?_
      refine AllReadyH.cons rfl (fun K hK => ?_) AllReadyH.nil
      go_simp
      go_at_call 57; refine Calls.mono (KP.out (some ⟨k5, 0, none⟩) n3 n3 (hv (hv h3 n3) n3) SE _ RF.out LF.out (by omega) (M5.out) (hv_rg (hv_rg R3.out)) (by rw [hv_val P3, hv_val P3, V3.out, rL_val, val_one]; exact SE_val)) ?_; rintro e w6 ⟨v6, rfl, ⟨h6, rfl, r6, v6⟩, b6⟩; have bb' := b6; have MX3 : Hid _ := MutK.below MX.out bb' (cell_lt (MutK.cells6 MX.out).1); clear MX; have MX : Hid _ := MX3.out; clear MX3; have R6 : Hid (Rg h6 6) := r6; have V6 : Hid (val h6 6 = sq (val f 6)) := v6; obtain ⟨m0, m1, m2, m3, m4, m5⟩ := MutK.cells6 MX.out; obtain ⟨n0, n1, n2, n3, n4, n5⟩ := MutK.free6 MX.out; have BX : Below W.heap.size W w6 := Below.up BW.out (Nat.le_refl _) bb'; clear BW; have BW : Hid (Below W.heap.size W w6) := BX; clear LB; have LB : Hid (W.heap.size ≤ w6.heap.size) := BX.size; clear BX bb'; clear b6 r6 v6 M5 R3 V3 P3
      refine hK.out _ _ (HS.out _ (BW.out)) (fun hHeld2 => ?_)
      clear hK K hHeld
      have hHeld := hHeld2
      clear hHeld2
      try simp only [Act.put, List.setIfInBounds_toArray, List.set_cons_zero, List.set_cons_succ]
      refine wpAnyH_ready (rs := [8]) (by kernel_rfl) (by simp) ?_
      refine AllReadyH.cons rfl (fun K hK => ?_) AllReadyH.nil
      go_simp
      refine hK.out _ _ (HS.out _ (below_set6 BW.out LX.out _ _ _ _ _ _)) (fun hHeld2 => ?_)
      clear hK K hHeld hHeld2
      try simp only [Act.put, List.setIfInBounds_toArray, List.set_cons_zero, List.set_cons_succ]
      refine wpAnyH_done (by kernel_rfl) ?_ _
      exact ⟨rfl, _, h6, _, _, _, _, _, _, _, _, _, _, _, _, _, _, _, _, _, _, rfl, (finB h6 BW.out MX.out LX.out).1, (finB h6 BW.out MX.out LX.out).2, R6.out, V6.out, LX.out⟩
    refine AllReadyH.cons rfl (fun K hK => ?_) AllReadyH.nil
    go_simp
    refine hK.out _ _ (HS.out _ (Below.drew (below_one _ _))) (fun hHeld2 => ?_)
    clear hK K hHeld
    have hHeld := hHeld2
    clear hHeld2
    try simp only [Act.put, List.setIfInBounds_toArray, List.set_cons_zero, List.set_cons_succ]
    refine wpAnyH_ready (rs := [1, 2]) (by kernel_rfl) (by simp) ?_
    refine AllReadyH.cons rfl (fun K hK => ?_) ?_
    · go_simp
      go_at_call 28; refine Calls.mono (refP_new _) ?_; rintro e w2 ⟨k2, rfl, b2, a2⟩; have bb' := (box1 (below_drew b2)).1; have MX : Hid _ := (box1 (below_drew b2)).2; have LX : Hid (W.heap.size ≤ W.heap.size) := (by exact LB.out); have AP : Hid (At w2 (some ⟨k2, 0, none⟩) 6 rL) := a2; have BX : Below W.heap.size W w2 := Below.up BW.out (Nat.le_refl _) bb'; clear BW; have BW : Hid (Below W.heap.size W w2) := BX; clear LB; have LB : Hid (W.heap.size ≤ w2.heap.size) := BX.size; clear BX bb'; clear b2 a2
      refine hK.out _ _ (HS.out _ (BW.out)) (fun hHeld2 => ?_)
      clear hK K hHeld
      have hHeld := hHeld2
      clear hHeld2
      try simp only [Act.put, List.setIfInBounds_toArray, List.set_cons_zero, List.set_cons_succ]
      refine wpAnyH_ready (rs := [2]) (by kernel_rfl) (by simp) ?_
      refine AllReadyH.cons rfl (fun K hK => ?_) AllReadyH.nil
      go_simp
      refine hK.out _ _ (HS.out _ (Below.up BW.out (Nat.le_refl _) (below_one _ _))) (fun hHeld2 => ?_)
      clear hK K hHeld
      have hHeld := hHeld2
      clear hHeld2
      try simp only [Act.put, List.setIfInBounds_toArray, List.set_cons_zero, List.set_cons_succ]
      refine wpAnyH_ready (rs := [3]) (by kernel_rfl) (by simp) ?_
      refine AllReadyH.cons rfl (fun K hK => ?_) AllReadyH.nil
      go_simp
      go_at_call 70; refine Calls.mono (refSum_any _ _ 6 1 6 1 rL (one 1) _ (by omega) (by omega) (by omega) (by omega) (AtK.below AP.out (below_one _ _)) (at_one _ _ _) rL_rg (one_rg ⟨by decide, by rw [B64_eq]; decide⟩ 1) (by omega) (by omega)) ?_; rintro e w3 ⟨v3, rfl, b3, p3, n3, c3, h3, rfl, q1, q2, q3, a3, r3, nm3, v3⟩; have bb' := (lit1 b3).1; have MX3 : Hid _ := MutK.below MX.out bb' (cell_lt (MutK.cells6 MX.out).1); clear MX; have MX : Hid _ := MX3.out; clear MX3; have A3 : Hid (At w3 p3 n3 h3) := a3; have R3 : Hid _ := r3; have V3 : Hid _ := v3; have P3 : 0 < n3 := nm_pos v3; have BX : Below W.heap.size W w3 := Below.up BW.out (Nat.le_refl _) bb'; clear BW; have BW : Hid (Below W.heap.size W w3) := BX; clear LB; have LB : Hid (W.heap.size ≤ w3.heap.size) := BX.size; clear BX bb'; clear b3 a3 r3 v3 nm3 AP
      refine hK.out _ _ (HS.out _ (BW.out)) (fun hHeld2 => ?_)
      clear hK K hHeld
      have hHeld := hHeld2
      clear hHeld2
      try simp only [Act.put, List.setIfInBounds_toArray, List.set_cons_zero, List.set_cons_succ]
      refine wpAnyH_ready (rs := [4]) (by kernel_rfl) (by simp) ?_
      refine AllReadyH.cons rfl (fun K hK => ?_) AllReadyH.nil
      go_simp
      go_at_call 67; refine Calls.mono (half_any p3 n3 c3 h3 _ P3 (by omega) q1 (A3.out) R3.out) ?_; rintro e w4 ⟨k4, rfl, b4, m4⟩; have bb' := b4; have MX3 : Hid _ := MutK.below MX.out bb' (cell_lt (MutK.cells6 MX.out).1); clear MX; have MX : Hid _ := MX3.out; clear MX3; have M4 : Hid (At w4 (some ⟨k4, 0, none⟩) n3 (hv h3 n3)) := m4.at; have BX : Below W.heap.size W w4 := Below.up BW.out (Nat.le_refl _) bb'; clear BW; have BW : Hid (Below W.heap.size W w4) := BX; clear LB; have LB : Hid (W.heap.size ≤ w4.heap.size) := BX.size; clear BX bb'; clear b4 m4 A3
      refine hK.out _ _ (HS.out _ (BW.out)) (fun hHeld2 => ?_)
      clear hK K hHeld
      have hHeld := hHeld2
      clear hHeld2
      try simp only [Act.put, List.setIfInBounds_toArray, List.set_cons_zero, List.set_cons_succ]
      refine wpAnyH_ready (rs := [5]) (by kernel_rfl) (by simp) ?_
      refine AllReadyH.cons rfl (fun K hK => ?_) AllReadyH.nil
      go_simp
      go_at_call 67; refine Calls.mono (half_any (some ⟨k4, 0, none⟩) n3 n3 (hv h3 n3) _ P3 (by omega) (by omega) (M4.out) (hv_rg R3.out)) ?_; rintro e w5 ⟨k5, rfl, b5, m5⟩; have bb' := b5; have MX3 : Hid _ := MutK.below MX.out bb' (cell_lt (MutK.cells6 MX.out).1); clear MX; have MX : Hid _ := MX3.out; clear MX3; have M5 : Hid (At w5 (some ⟨k5, 0, none⟩) n3 (hv (hv h3 n3) n3)) := m5.at; have BX : Below W.heap.size W w5 := Below.up BW.out (Nat.le_refl _) bb'; clear BW; have BW : Hid (Below W.heap.size W w5) := BX; clear LB; have LB : Hid (W.heap.size ≤ w5.heap.size) := BX.size; clear BX bb'; clear b5 m5 M4
      refine hK.out _ _ (HS.out _ (BW.out)) (fun hHeld2 => ?_)
      clear hK K hHeld
      have hHeld := hHeld2
      clear hHeld2
      try simp only [Act.put, List.setIfInBounds_toArray, List.set_cons_zero, List.set_cons_succ]
      refine wpAnyH_ready (rs := [6]) (by kernel_rfl) (by simp) ?_
      refine AllReadyH.cons rfl (fun K hK => ?_) AllReadyH.nil
      go_simp
      go_at_call 57; refine Calls.mono (KP.out (some ⟨k5, 0, none⟩) n3 n3 (hv (hv h3 n3) n3) SE _ RF.out LF.out (by omega) (M5.out) (hv_rg (hv_rg R3.out)) (by rw [hv_val P3, hv_val P3, V3.out, rL_val, val_one]; exact SE_val)) ?_; rintro e w6 ⟨v6, rfl, ⟨h6, rfl, r6, v6⟩, b6⟩; have bb' := b6; have MX3 : Hid _ := MutK.below MX.out bb' (cell_lt (MutK.cells6 MX.out).1); clear MX; have MX : Hid _ := MX3.out; clear MX3; have R6 : Hid (Rg h6 6) := r6; have V6 : Hid (val h6 6 = sq (val f 6)) := v6; obtain ⟨m0, m1, m2, m3, m4, m5⟩ := MutK.cells6 MX.out; obtain ⟨n0, n1, n2, n3, n4, n5⟩ := MutK.free6 MX.out; have BX : Below W.heap.size W w6 := Below.up BW.out (Nat.le_refl _) bb'; clear BW; have BW : Hid (Below W.heap.size W w6) := BX; clear LB; have LB : Hid (W.heap.size ≤ w6.heap.size) := BX.size; clear BX bb'; clear b6 r6 v6 M5 R3 V3 P3
      refine hK.out _ _ (HS.out _ (BW.out)) (fun hHeld2 => ?_)
      clear hK K hHeld
      have hHeld := hHeld2
      clear hHeld2
      try simp only [Act.put, List.setIfInBounds_toArray, List.set_cons_zero, List.set_cons_succ]
      refine wpAnyH_ready (rs := [8]) (by kernel_rfl) (by simp) ?_
      refine AllReadyH.cons rfl (fun K hK => ?_) AllReadyH.nil
      go_simp
      refine hK.out _ _ (HS.out _ (below_set6 BW.out LX.out _ _ _ _ _ _)) (fun hHeld2 => ?_)
      clear hK K hHeld hHeld2
      try simp only [Act.put, List.setIfInBounds_toArray, List.set_cons_zero, List.set_cons_succ]
      refine wpAnyH_done (by kernel_rfl) ?_ _
      exact ⟨rfl, _, h6, _, _, _, _, _, _, _, _, _, _, _, _, _, _, _, _, _, _, rfl, (finB h6 BW.out MX.out LX.out).1, (finB h6 BW.out MX.out LX.out).2, R6.out, V6.out, LX.out⟩
    refine AllReadyH.cons rfl (fun K hK => ?_) AllReadyH.nil
    go_simp
    refine hK.out _ _ (HS.out _ (Below.drew (below_two _ _ _))) (fun hHeld2 => ?_)
    clear hK K hHeld
    have hHeld := hHeld2
    clear hHeld2
    try simp only [Act.put, List.setIfInBounds_toArray, List.set_cons_zero, List.set_cons_succ]
    refine wpAnyH_ready (rs := [1]) (by kernel_rfl) (by simp) ?_
    refine AllReadyH.cons rfl (fun K hK => ?_) AllReadyH.nil
    go_simp
    go_at_call 28; refine Calls.mono (refP_new _) ?_; rintro e w2 ⟨k2, rfl, b2, a2⟩; have bb' := (boxlit (below_drew b2)).1; have ML : Hid _ := (boxlit (below_drew b2)).2.1; have MX : Hid _ := (boxlit (below_drew b2)).2.2; have LX : Hid (W.heap.size ≤ W.heap.size) := (by exact LB.out); have AP : Hid (At w2 (some ⟨k2, 0, none⟩) 6 rL) := a2; have BX : Below W.heap.size W w2 := Below.up BW.out (Nat.le_refl _) bb'; clear BW; have BW : Hid (Below W.heap.size W w2) := BX; clear LB; have LB : Hid (W.heap.size ≤ w2.heap.size) := BX.size; clear BX bb'; clear b2 a2
    refine hK.out _ _ (HS.out _ (BW.out)) (fun hHeld2 => ?_)
    clear hK K hHeld
    have hHeld := hHeld2
    clear hHeld2
    try simp only [Act.put, List.setIfInBounds_toArray, List.set_cons_zero, List.set_cons_succ]
    refine wpAnyH_ready (rs := [3]) (by kernel_rfl) (by simp) ?_
    refine AllReadyH.cons rfl (fun K hK => ?_) AllReadyH.nil
    go_simp
    go_at_call 70; refine Calls.mono (refSum_any _ _ 6 1 6 1 rL (one 1) _ (by omega) (by omega) (by omega) (by omega) (AP.out) (ML.out) rL_rg (one_rg ⟨by decide, by rw [B64_eq]; decide⟩ 1) (by omega) (by omega)) ?_; rintro e w3 ⟨v3, rfl, b3, p3, n3, c3, h3, rfl, q1, q2, q3, a3, r3, nm3, v3⟩; have bb' := b3; have MX3 : Hid _ := MutK.below MX.out bb' (cell_lt (MutK.cells6 MX.out).1); clear MX; have MX : Hid _ := MX3.out; clear MX3; clear ML; have A3 : Hid (At w3 p3 n3 h3) := a3; have R3 : Hid _ := r3; have V3 : Hid _ := v3; have P3 : 0 < n3 := nm_pos v3; have BX : Below W.heap.size W w3 := Below.up BW.out (Nat.le_refl _) bb'; clear BW; have BW : Hid (Below W.heap.size W w3) := BX; clear LB; have LB : Hid (W.heap.size ≤ w3.heap.size) := BX.size; clear BX bb'; clear b3 a3 r3 v3 nm3 AP
    refine hK.out _ _ (HS.out _ (BW.out)) (fun hHeld2 => ?_)
    clear hK K hHeld
    have hHeld := hHeld2
    clear hHeld2
    try simp only [Act.put, List.setIfInBounds_toArray, List.set_cons_zero, List.set_cons_succ]
    refine wpAnyH_ready (rs := [4]) (by kernel_rfl) (by simp) ?_
    refine AllReadyH.cons rfl (fun K hK => ?_) AllReadyH.nil
    go_simp
    go_at_call 67; refine Calls.mono (half_any p3 n3 c3 h3 _ P3 (by omega) q1 (A3.out) R3.out) ?_; rintro e w4 ⟨k4, rfl, b4, m4⟩; have bb' := b4; have MX3 : Hid _ := MutK.below MX.out bb' (cell_lt (MutK.cells6 MX.out).1); clear MX; have MX : Hid _ := MX3.out; clear MX3; have M4 : Hid (At w4 (some ⟨k4, 0, none⟩) n3 (hv h3 n3)) := m4.at; have BX : Below W.heap.size W w4 := Below.up BW.out (Nat.le_refl _) bb'; clear BW; have BW : Hid (Below W.heap.size W w4) := BX; clear LB; have LB : Hid (W.heap.size ≤ w4.heap.size) := BX.size; clear BX bb'; clear b4 m4 A3
    refine hK.out _ _ (HS.out _ (BW.out)) (fun hHeld2 => ?_)
    clear hK K hHeld
    have hHeld := hHeld2
    clear hHeld2
    try simp only [Act.put, List.setIfInBounds_toArray, List.set_cons_zero, List.set_cons_succ]
    refine wpAnyH_ready (rs := [5]) (by kernel_rfl) (by simp) ?_
    refine AllReadyH.cons rfl (fun K hK => ?_) AllReadyH.nil
    go_simp
    go_at_call 67; refine Calls.mono (half_any (some ⟨k4, 0, none⟩) n3 n3 (hv h3 n3) _ P3 (by omega) (by omega) (M4.out) (hv_rg R3.out)) ?_; rintro e w5 ⟨k5, rfl, b5, m5⟩; have bb' := b5; have MX3 : Hid _ := MutK.below MX.out bb' (cell_lt (MutK.cells6 MX.out).1); clear MX; have MX : Hid _ := MX3.out; clear MX3; have M5 : Hid (At w5 (some ⟨k5, 0, none⟩) n3 (hv (hv h3 n3) n3)) := m5.at; have BX : Below W.heap.size W w5 := Below.up BW.out (Nat.le_refl _) bb'; clear BW; have BW : Hid (Below W.heap.size W w5) := BX; clear LB; have LB : Hid (W.heap.size ≤ w5.heap.size) := BX.size; clear BX bb'; clear b5 m5 M4
    refine hK.out _ _ (HS.out _ (BW.out)) (fun hHeld2 => ?_)
    clear hK K hHeld
    have hHeld := hHeld2
    clear hHeld2
    try simp only [Act.put, List.setIfInBounds_toArray, List.set_cons_zero, List.set_cons_succ]
    refine wpAnyH_ready (rs := [6]) (by kernel_rfl) (by simp) ?_
    refine AllReadyH.cons rfl (fun K hK => ?_) AllReadyH.nil
    go_simp
    go_at_call 57; refine Calls.mono (KP.out (some ⟨k5, 0, none⟩) n3 n3 (hv (hv h3 n3) n3) SE _ RF.out LF.out (by omega) (M5.out) (hv_rg (hv_rg R3.out)) (by rw [hv_val P3, hv_val P3, V3.out, rL_val, val_one]; exact SE_val)) ?_; rintro e w6 ⟨v6, rfl, ⟨h6, rfl, r6, v6⟩, b6⟩; have bb' := b6; have MX3 : Hid _ := MutK.below MX.out bb' (cell_lt (MutK.cells6 MX.out).1); clear MX; have MX : Hid _ := MX3.out; clear MX3; have R6 : Hid (Rg h6 6) := r6; have V6 : Hid (val h6 6 = sq (val f 6)) := v6; obtain ⟨m0, m1, m2, m3, m4, m5⟩ := MutK.cells6 MX.out; obtain ⟨n0, n1, n2, n3, n4, n5⟩ := MutK.free6 MX.out; have BX : Below W.heap.size W w6 := Below.up BW.out (Nat.le_refl _) bb'; clear BW; have BW : Hid (Below W.heap.size W w6) := BX; clear LB; have LB : Hid (W.heap.size ≤ w6.heap.size) := BX.size; clear BX bb'; clear b6 r6 v6 M5 R3 V3 P3
    refine hK.out _ _ (HS.out _ (BW.out)) (fun hHeld2 => ?_)
    clear hK K hHeld
    have hHeld := hHeld2
    clear hHeld2
    try simp only [Act.put, List.setIfInBounds_toArray, List.set_cons_zero, List.set_cons_succ]
    refine wpAnyH_ready (rs := [8]) (by kernel_rfl) (by simp) ?_
    refine AllReadyH.cons rfl (fun K hK => ?_) AllReadyH.nil
    go_simp
    refine hK.out _ _ (HS.out _ (below_set6 BW.out LX.out _ _ _ _ _ _)) (fun hHeld2 => ?_)
    clear hK K hHeld hHeld2
    try simp only [Act.put, List.setIfInBounds_toArray, List.set_cons_zero, List.set_cons_succ]
    refine wpAnyH_done (by kernel_rfl) ?_ _
    exact ⟨rfl, _, h6, _, _, _, _, _, _, _, _, _, _, _, _, _, _, _, _, _, _, rfl, (finB h6 BW.out MX.out LX.out).1, (finB h6 BW.out MX.out LX.out).2, R6.out, V6.out, LX.out⟩
theorem sqrtP_yes (f : Nat → Int) (w : World) (rf : Rg f 6) (lf : val f 6 < RI) (hn : sq (val f 6) * sq (val f 6) % RI = val f 6) : Calls Tryd.prog 47 #[.agg #[.int .u64 (f 0), .int .u64 (f 1), .int .u64 (f 2), .int .u64 (f 3), .int .u64 (f 4), .int .u64 (f 5)]] w fun e w' => ∃ h : Nat → Int, e = .returned (.tuple #[.agg #[.int .u64 (h 0), .int .u64 (h 1), .int .u64 (h 2), .int .u64 (h 3), .int .u64 (h 4), .int .u64 (h 5)], .bool true]) ∧ Rg h 6 ∧ val h 6 = lesser (sq (val f 6)) ∧ Below w.heap.size w w' := sqrtP_at f w rf lf true _ (Or.inl ⟨hn, rfl, rfl⟩)
theorem sqrtP_no (f : Nat → Int) (w : World) (rf : Rg f 6) (lf : val f 6 < RI) (hn : sq (val f 6) * sq (val f 6) % RI ≠ val f 6) : Calls Tryd.prog 47 #[.agg #[.int .u64 (f 0), .int .u64 (f 1), .int .u64 (f 2), .int .u64 (f 3), .int .u64 (f 4), .int .u64 (f 5)]] w fun e w' => ∃ h : Nat → Int, e = .returned (.tuple #[.agg #[.int .u64 (h 0), .int .u64 (h 1), .int .u64 (h 2), .int .u64 (h 3), .int .u64 (h 4), .int .u64 (h 5)], .bool false]) ∧ Rg h 6 ∧ val h 6 = 0 ∧ Below w.heap.size w w' := sqrtP_at f w rf lf false _ (Or.inr ⟨hn, rfl, rfl⟩)
end Go.Proofs.YtgoghcmnnhglhaaDoor.fpn

/- What is asked of package fp, and what the reference's numbers answer, by values of numbers. -/
namespace Go.Proofs.YtgoghcmnnhglhaaDoor.fpn
open Go.RowKit
set_option linter.unusedVariables false

theorem ne_zero {a : F} (h : a ≠ 0) : (a.val : Int) ≠ 0 := fun e => h (Fin.ext (by
  have : a.val = 0 := by omega
  rw [this]; rfl))
theorem small {n : Nat} (h : n < 1000) : (n : Int) = ((Fin.ofNat RN n : F).val : Int) := by
  show (n : Int) = ((n % RN : Nat) : Int)
  rw [Nat.mod_eq_of_lt (Nat.lt_trans h (by decide))]

theorem ret1 {f : FuncId} {args : Array Value} {w : World} {X : Int} {c : F}
    (h : Calls Tryd.prog f args w fun e w' => ∃ h : Nat → Int, e = .returned (.agg #[.int .u64 (h 0), .int .u64 (h 1), .int .u64 (h 2), .int .u64 (h 3), .int .u64 (h 4), .int .u64 (h 5)]) ∧ Rg h 6 ∧ val h 6 = X ∧ Below w.heap.size w w')
    (hX : X = (c.val : Int)) : Calls Tryd.prog f args w (Ret (FV c) w) :=
  Calls.mono h fun e w' ⟨h, he, rh, vh, hb⟩ => ⟨he.trans (congrArg _ (agg_of rh (vh.trans hX))), hb⟩
theorem ret2 {f : FuncId} {args : Array Value} {w : World} {X : Int} {c : F} {v : Value}
    (h : Calls Tryd.prog f args w fun e w' => ∃ h : Nat → Int, e = .returned (.tuple #[.agg #[.int .u64 (h 0), .int .u64 (h 1), .int .u64 (h 2), .int .u64 (h 3), .int .u64 (h 4), .int .u64 (h 5)], v]) ∧ Rg h 6 ∧ val h 6 = X ∧ Below w.heap.size w w')
    (hX : X = (c.val : Int)) : Calls Tryd.prog f args w (Ret (.tuple #[FV c, v]) w) :=
  Calls.mono h fun e w' ⟨h, he, rh, vh, hb⟩ => ⟨by rw [he, agg_of rh (vh.trans hX)], hb⟩
theorem ret0 {f : FuncId} {args : Array Value} {w : World} {X : Int} {c : F}
    (h : Calls Tryd.prog f args w fun e w' => ∃ v, e = .returned v ∧ (∃ h : Nat → Int, v = frv h ∧ Rg h 6 ∧ val h 6 = X) ∧ Below w.heap.size w w')
    (hX : X = (c.val : Int)) : Calls Tryd.prog f args w (Ret (FV c) w) :=
  Calls.mono h fun e w' ⟨v, he, ⟨h, hv, rh, vh⟩, hb⟩ => ⟨by rw [he, hv]; exact congrArg _ (agg_of rh (vh.trans hX)), hb⟩
theorem ret3 {f : FuncId} {args : Array Value} {w : World} {X : Int} {c : F} {u : Value}
    (h : Calls Tryd.prog f args w fun e w' => ∃ v, e = .returned (.tuple #[v, u]) ∧ (∃ h : Nat → Int, v = frv h ∧ Rg h 6 ∧ val h 6 = X) ∧ Below w.heap.size w w')
    (hX : X = (c.val : Int)) : Calls Tryd.prog f args w (Ret (.tuple #[FV c, u]) w) :=
  Calls.mono h fun e w' ⟨v, he, ⟨h, hv, rh, vh⟩, hb⟩ => ⟨by rw [he, hv, show frv h = FV c from agg_of rh (vh.trans hX)], hb⟩

/-- What is asked of package fp. -/
structure FpK (G : World → Prop) : Prop where
  stay : ∀ {w x : World}, G w → Below w.heap.size w x → G x
  add : ∀ (a b : F) (w : World), G w → Calls Tryd.prog 35 #[FV a, FV b] w (Ret (FV (a + b)) w)
  sub : ∀ (a b : F) (w : World), G w → Calls Tryd.prog 37 #[FV a, FV b] w (Ret (FV (a - b)) w)
  mul : ∀ (a b : F) (w : World), G w → Calls Tryd.prog 40 #[FV a, FV b] w (Ret (FV (a * b)) w)
  neg : ∀ (a : F) (w : World), G w → Calls Tryd.prog 39 #[FV a] w (Ret (FV (-a)) w)
  of : ∀ (n : Nat) (w : World), n < 1000 → G w → Calls Tryd.prog 48 #[.int .u64 (n : Int)] w (Ret (FV (Fin.ofNat RN n)) w)
  inv : ∀ (a : F) (w : World), G w → a ≠ 0 → Calls Tryd.prog 31 #[FV a] w (Ret (.tuple #[FV (finv a), .int .i64 0]) w)
  inv0 : ∀ (w : World), G w → Calls Tryd.prog 31 #[FV 0] w (Ret (.tuple #[FV 0, .int .i64 7]) w)
  may : ∀ (f : Nat → Int) (w : World), G w → Rg f 6 → Calls Tryd.prog 30 #[frv f] w (Ret (.bool (decide (val f 6 < RI))) w)
  great : ∀ (a : F) (w : World), G w → Calls Tryd.prog 43 #[FV a] w (Ret (.bool (great a)) w)
  sqrt : ∀ (a : F) (w : World), G w → Calls Tryd.prog 81 #[FV a] w (Ret (.tuple #[FV (root a), .bool (isq a)]) w)
theorem fpK {G : World → Prop} (K : FpOk G) : FpK G where
  stay := K.stay
  add := fun a b w g => ret1 (K.add (lb a.val) (lb b.val) w g (lb_rg _ _) (lb_rg _ _) (lt_RI a) (lt_RI b)) (by rw [lbF, lbF, val_add])
  sub := fun a b w g => ret1 (K.sub (lb a.val) (lb b.val) w g (lb_rg _ _) (lb_rg _ _) (lt_RI a) (lt_RI b)) (by rw [lbF, lbF, val_sub])
  mul := fun a b w g => ret1 (K.mul (lb a.val) (lb b.val) w g (lb_rg _ _) (lb_rg _ _) (lt_RI a) (lt_RI b)) (by rw [lbF, lbF, val_mul])
  neg := fun a w g => ret1 (K.neg (lb a.val) w g (lb_rg _ _) (lt_RI a)) (by rw [lbF, val_neg])
  of := fun n w hn g => ret1 (K.of n w g ⟨by omega, by rw [B64_eq]; omega⟩) (small hn)
  inv := fun a w g h => ret2 (K.inv (lb a.val) w g (lb_rg _ _) (lt_RI a) (by rw [lbF]; exact ne_zero h)) (by rw [lbF, val_finv])
  inv0 := fun w g => ret2 (K.inv0 (lb (0 : F).val) w g (lb_rg _ _) (by rw [lbF]; rfl)) rfl
  may := fun f w g rf => K.may f w g rf
  great := fun a w g => by have h := K.great (lb a.val) w g (lb_rg _ _) (lt_RI a); rw [lbF, great_int] at h; exact h
  sqrt := fun a w g => by
    by_cases h : isq a = true
    · rw [h]
      refine ret2 (K.sqrtYes (lb a.val) w g (lb_rg _ _) (lt_RI a) (by rw [lbF]; exact (isq_int a).2 h)) ?_
      rw [lbF, lesser_int a h]
    · rw [show root a = 0 from if_neg h, show isq a = false by simpa using h]
      exact ret2 (K.sqrtNo (lb a.val) w g (lb_rg _ _) (lt_RI a) (by rw [lbF]; exact fun e => h ((isq_int a).1 e))) rfl
/-- What the reference's numbers answer. -/
structure RefK : Prop where
  add : ∀ (a b : F) (w : World), True → Calls Tryd.prog 36 #[FV a, FV b] w (Ret (FV (a + b)) w)
  sub : ∀ (a b : F) (w : World), True → Calls Tryd.prog 38 #[FV a, FV b] w (Ret (FV (a - b)) w)
  mul : ∀ (a b : F) (w : World), True → Calls Tryd.prog 41 #[FV a, FV b] w (Ret (FV (a * b)) w)
  neg : ∀ (a : F) (w : World), True → Calls Tryd.prog 42 #[FV a] w (Ret (FV (-a)) w)
  of : ∀ (n : Nat) (w : World), n < 1000 → True → Calls Tryd.prog 46 #[.int .u64 (n : Int)] w (Ret (FV (Fin.ofNat RN n)) w)
  inv : ∀ (a : F) (w : World), True → a ≠ 0 → Calls Tryd.prog 34 #[FV a] w (Ret (.tuple #[FV (finv a), .int .i64 0]) w)
  inv0 : ∀ (w : World), True → Calls Tryd.prog 34 #[FV 0] w (Ret (.tuple #[FV 0, .int .i64 7]) w)
  may : ∀ (f : Nat → Int) (w : World), True → Rg f 6 → Calls Tryd.prog 29 #[frv f] w (Ret (.bool (decide (val f 6 < RI))) w)
  great : ∀ (a : F) (w : World), True → Calls Tryd.prog 44 #[FV a] w (Ret (.bool (great a)) w)
  sqrt : ∀ (a : F) (w : World), True → Calls Tryd.prog 47 #[FV a] w (Ret (.tuple #[FV (root a), .bool (isq a)]) w)
theorem refK : RefK where
  add := fun a b w _ => ret0 (addR_any (lb a.val) (lb b.val) w (lb_rg _ _) (lb_rg _ _) (lt_RI a) (lt_RI b)) (by rw [lbF, lbF, val_add])
  sub := fun a b w _ => ret0 (subR_any (lb a.val) (lb b.val) w (lb_rg _ _) (lb_rg _ _) (lt_RI a) (lt_RI b)) (by rw [lbF, lbF, val_sub])
  mul := fun a b w _ => ret0 (mulR_any (lb a.val) (lb b.val) w (lb_rg _ _) (lb_rg _ _) (lt_RI b)) (by rw [lbF, lbF, val_mul])
  neg := fun a w _ => ret0 (negR_any (lb a.val) w (lb_rg _ _) (lt_RI a)) (by rw [lbF, val_neg])
  of := fun n w hn _ => Calls.mono (refOf_any n w) fun e w' ⟨he, hb⟩ => ⟨he.trans (congrArg _ (agg_of (h := one n) (one_rg ⟨by omega, by rw [B64_eq]; omega⟩ 6) (by rw [val_one4]; exact small hn))), hb⟩
  inv := fun a w _ h => ret3 (invR_any (lb a.val) w (lb_rg _ _) (lt_RI a) (by rw [lbF]; exact ne_zero h)) (by rw [lbF, val_finv])
  inv0 := fun w _ => invR_zero (lb (0 : F).val) w (lb_rg _ _) (by rw [lbF]; rfl)
  may := fun f w _ rf => mayR_any f w rf
  great := fun a w _ => by have h := greatP_any (lb a.val) w (lb_rg _ _); rw [lbF, great_int] at h; exact h
  sqrt := fun a w _ => by
    by_cases h : isq a = true
    · rw [h]
      refine ret2 (sqrtP_yes (lb a.val) w (lb_rg _ _) (lt_RI a) (by rw [lbF]; exact (isq_int a).2 h)) ?_
      rw [lbF, lesser_int a h]
    · rw [show root a = 0 from if_neg h, show isq a = false by simpa using h]
      exact ret2 (sqrtP_no (lb a.val) w (lb_rg _ _) (lt_RI a) (by rw [lbF]; exact fun e => h ((isq_int a).1 e))) rfl
end Go.Proofs.YtgoghcmnnhglhaaDoor.fpn

/- Pairs as one type, the value that each has, and how values are held against each other and built. -/
namespace Go.Proofs.YtgoghcmnnhglhaaDoor.fpn
open Go.RowKit Pl
set_option linter.unusedVariables false
set_option linter.unusedSimpArgs false

/-- X0 + X1 u. -/
structure F2 where
  c0 : F
  c1 : F
  deriving DecidableEq

namespace F2
theorem ext' {x y : F2} (h0 : x.c0 = y.c0) (h1 : x.c1 = y.c1) : x = y := by cases x; cases y; simp_all
instance : Add F2 := ⟨fun x y => ⟨x.c0 + y.c0, x.c1 + y.c1⟩⟩
instance : Sub F2 := ⟨fun x y => ⟨x.c0 - y.c0, x.c1 - y.c1⟩⟩
instance : Neg F2 := ⟨fun x => ⟨-x.c0, -x.c1⟩⟩
instance : Mul F2 := ⟨fun x y => ⟨x.c0 * y.c0 - x.c1 * y.c1, x.c0 * y.c1 + x.c1 * y.c0⟩⟩
instance : OfNat F2 0 := ⟨⟨0, 0⟩⟩
instance : OfNat F2 1 := ⟨⟨1, 0⟩⟩
def conj (x : F2) : F2 := ⟨x.c0, -x.c1⟩
def norm (x : F2) : F := x.c0 * x.c0 + x.c1 * x.c1
noncomputable def inv (x : F2) : F2 := ⟨x.c0 * finv x.norm, -x.c1 * finv x.norm⟩
def great (x : F2) : Bool := if x.c1 = 0 then fpn.great x.c0 else fpn.great x.c1
@[simp] theorem add_c0 (x y : F2) : (x + y).c0 = x.c0 + y.c0 := rfl
@[simp] theorem add_c1 (x y : F2) : (x + y).c1 = x.c1 + y.c1 := rfl
@[simp] theorem sub_c0 (x y : F2) : (x - y).c0 = x.c0 - y.c0 := rfl
@[simp] theorem sub_c1 (x y : F2) : (x - y).c1 = x.c1 - y.c1 := rfl
@[simp] theorem neg_c0 (x : F2) : (-x).c0 = -x.c0 := rfl
@[simp] theorem neg_c1 (x : F2) : (-x).c1 = -x.c1 := rfl
@[simp] theorem mul_c0 (x y : F2) : (x * y).c0 = x.c0 * y.c0 - x.c1 * y.c1 := rfl
@[simp] theorem mul_c1 (x y : F2) : (x * y).c1 = x.c0 * y.c1 + x.c1 * y.c0 := rfl
@[simp] theorem zero_c0 : (0 : F2).c0 = 0 := rfl
@[simp] theorem zero_c1 : (0 : F2).c1 = 0 := rfl
@[simp] theorem one_c0 : (1 : F2).c0 = 1 := rfl
@[simp] theorem one_c1 : (1 : F2).c1 = 0 := rfl
@[simp] theorem conj_c0 (x : F2) : (conj x).c0 = x.c0 := rfl
@[simp] theorem conj_c1 (x : F2) : (conj x).c1 = -x.c1 := rfl
end F2

/-- A pair's cells. -/
def PC (x : F2) : List Value := FC x.c0 ++ FC x.c1
/-- A pair's value. -/
def PV (x : F2) : Value := .agg (PC x).toArray
theorem PC_len (x : F2) : (PC x).length = 12 := rfl
theorem PC_one (x : F2) : ∀ v ∈ PC x, v.oneCell' = true := fun v hv => by
  rcases List.mem_append.1 hv with h | h
  · exact FC_one _ v h
  · exact FC_one _ v h
theorem lb_eq {a b : F} (h : ∀ i, i < 6 → lb a.val i = lb b.val i) : a = b := ext_int (by rw [← lbF a, ← lbF b]; exact val_congr h)

/-- Numbers are held against each other. -/
theorem eqF (d : Nat) (a b : F) (w : World) : (Op.equalIn (d + 2) 24 (FV a) (FV b)).run Tryd.prog w = .ok (decide (a = b)) w := by
  have key : ∀ (a b c d' p q a' b' c' d'' p' q' : Int), (Op.equalIn (d + 2) 24 (.agg #[.int .u64 a, .int .u64 b, .int .u64 c, .int .u64 d', .int .u64 p, .int .u64 q]) (.agg #[.int .u64 a', .int .u64 b', .int .u64 c', .int .u64 d'', .int .u64 p', .int .u64 q'])).run Tryd.prog w = .ok (a == a' && (b == b' && (c == c' && (d' == d'' && (p == p' && q == q'))))) w := by
    intro a b c d' p q a' b' c' d'' p' q'
    have u3 := Tryd.underlying22
    have a3 := Tryd.isAgg22
    have z3 := Tryd.sizeOf22
    have hE : ∀ (x y : Int) (w : World), (Op.equalIn (d + 1) 22 (.int .u64 x) (.int .u64 y)).run Tryd.prog w = .ok (x == y) w := fun x y w => by
      rw [Op.equalIn.eq_def]
      simp [Sem.run_bind, run_underlying Tryd.underlying22]
    rw [show d + 2 = (d + 1) + 1 from rfl, Op.equalIn.eq_def]
    simp only [Sem.run_bind, run_underlying Tryd.underlying24, Result.andThen_ok]
    simp only [Std.Legacy.Range.forIn_eq_forIn_range', Std.Legacy.Range.size, Nat.sub_zero, Nat.add_sub_cancel, Nat.div_one, List.range'_succ, List.range'_zero, List.forIn_cons, List.forIn_nil]
    go_simp
    by_cases h1 : a = a'
    · by_cases h2 : b = b'
      · by_cases h3 : c = c'
        · by_cases h4 : d' = d''
          · by_cases h5 : p = p'
            · by_cases h6 : q = q' <;> simp [h1, h2, h3, h4, h5, h6]
            · simp [h1, h2, h3, h4, h5]
          · simp [h1, h2, h3, h4]
        · simp [h1, h2, h3]
      · simp [h1, h2]
    · simp [h1]
  rw [FV_agg, FV_agg, key]
  congr 1
  by_cases h : a = b
  · subst h; simp
  · rw [decide_eq_false h, Bool.eq_false_iff]
    intro hc
    simp only [Bool.and_eq_true, beq_iff_eq] at hc
    refine h (lb_eq fun i hi => ?_)
    rcases (show i = 0 ∨ i = 1 ∨ i = 2 ∨ i = 3 ∨ i = 4 ∨ i = 5 by omega) with rfl | rfl | rfl | rfl | rfl | rfl
    · exact hc.1
    · exact hc.2.1
    · exact hc.2.2.1
    · exact hc.2.2.2.1
    · exact hc.2.2.2.2.1
    · exact hc.2.2.2.2.2

end Go.Proofs.YtgoghcmnnhglhaaDoor.fpn

/- How numbers and pairs are held against each other and built, as operations. -/
namespace Go.Proofs.YtgoghcmnnhglhaaDoor.fpn
open Go.RowKit Pl
set_option linter.unusedVariables false
set_option linter.unusedSimpArgs false

theorem cut0 (x : F2) : List.take 6 (PC x) = FC x.c0 := rfl
theorem cut1 (x : F2) : List.take 6 (List.drop 6 (PC x)) = FC x.c1 := rfl

/-- Pairs are held against each other. -/
theorem eqP (d : Nat) (x y : F2) (w : World) : (Op.equalIn (d + 3) 26 (PV x) (PV y)).run Tryd.prog w = .ok (decide (x = y)) w := by
  have hE : ∀ (a b : F) (w : World), (Op.equalIn (d + 2) 24 (.agg (FC a).toArray) (.agg (FC b).toArray)).run Tryd.prog w = .ok (decide (a = b)) w := fun a b w => eqF d a b w
  have hp0 : ∀ (x : F2) (w : World), (part 24 (PC x).toArray 0).run Tryd.prog w = .ok (.agg (FC x.c0).toArray) w := fun x w => by
    simp [part, Sem.run_bind, Tryd.isAgg24, Tryd.sizeOf24, cut0]
  have hp1 : ∀ (x : F2) (w : World), (part 24 (PC x).toArray 6).run Tryd.prog w = .ok (.agg (FC x.c1).toArray) w := fun x w => by
    simp [part, Sem.run_bind, Tryd.isAgg24, Tryd.sizeOf24, cut1]
  unfold PV
  rw [show d + 3 = (d + 2) + 1 from rfl, Op.equalIn.eq_def]
  simp only [Sem.run_bind, run_underlying Tryd.underlying26, Result.andThen_ok]
  simp only [Std.Legacy.Range.forIn_eq_forIn_range', Std.Legacy.Range.size, Nat.sub_zero, Nat.add_sub_cancel, Nat.div_one, List.range'_succ, List.range'_zero, List.forIn_cons, List.forIn_nil]
  simp only [Sem.run_bind, Tryd.sizeOf24, Result.andThen_ok, Nat.zero_mul, Nat.reduceAdd, Nat.reduceMul, Nat.one_mul, hp0, hp1, hE]
  by_cases h0 : x.c0 = y.c0
  · by_cases h1 : x.c1 = y.c1
    · have : x = y := F2.ext' h0 h1
      simp [h0, h1, this, hp0, hp1, hE]
    · have : x ≠ y := fun e => h1 (by rw [e])
      simp [h0, h1, this, hp0, hp1, hE]
  · have : x ≠ y := fun e => h0 (by rw [e])
    simp [h0, this, hp0, hp1, hE]

theorem guardF (op : BinOp) (x y : Operand) (a b : F) (w : World) : (eqGuard op 24 x y (FV a) (FV b)).run Tryd.prog w = .ok () w := by
  have h : Tryd.prog.eqGuardType Tryd.prog.depth 24 = false := by kernel_rfl
  unfold eqGuard FV
  cases op <;> simp [Sem.run_bind, h]
theorem guardP (op : BinOp) (x y : Operand) (a b : F2) (w : World) : (eqGuard op 26 x y (PV a) (PV b)).run Tryd.prog w = .ok () w := by
  have h : Tryd.prog.eqGuardType Tryd.prog.depth 26 = false := by kernel_rfl
  unfold eqGuard PV
  cases op <;> simp [Sem.run_bind, h]
theorem guardI (op : BinOp) (t : TypeId) (x y : Operand) (k k' : IntKind) (m n : Int) (w : World) : (eqGuard op t x y (.int k m) (.int k' n)).run Tryd.prog w = .ok () w := by
  unfold eqGuard
  cases op <;> simp [Sem.run_bind]
theorem guardB (op : BinOp) (t : TypeId) (x y : Operand) (m n : Bool) (w : World) : (eqGuard op t x y (.bool m) (.bool n)).run Tryd.prog w = .ok () w := by
  unfold eqGuard
  cases op <;> simp [Sem.run_bind]

theorem eqlF (a b : F) (w : World) : (binOp .eql 24 (FV a) (FV b)).run Tryd.prog w = .ok (.bool (decide (a = b))) w := by
  have := eqF 9998 a b w
  unfold FV at *
  simp [binOp, Sem.run_bind, Op.equal, Op.maxDepth, this]
theorem neqF (a b : F) (w : World) : (binOp .neq 24 (FV a) (FV b)).run Tryd.prog w = .ok (.bool (!decide (a = b))) w := by
  have := eqF 9998 a b w
  unfold FV at *
  simp [binOp, Sem.run_bind, Op.equal, Op.maxDepth, this]
theorem eqlP (a b : F2) (w : World) : (binOp .eql 26 (PV a) (PV b)).run Tryd.prog w = .ok (.bool (decide (a = b))) w := by
  have := eqP 9997 a b w
  unfold PV at *
  simp [binOp, Sem.run_bind, Op.equal, Op.maxDepth, this]
theorem neqP (a b : F2) (w : World) : (binOp .neq 26 (PV a) (PV b)).run Tryd.prog w = .ok (.bool (!decide (a = b))) w := by
  have := eqP 9997 a b w
  unfold PV at *
  simp [binOp, Sem.run_bind, Op.equal, Op.maxDepth, this]
theorem equalB (a b : Bool) (w : World) : (Op.equal 4 (.bool a) (.bool b)).run Tryd.prog w = .ok (a == b) w := by
  unfold Op.equal
  rw [show Op.maxDepth = 9999 + 1 from rfl, Op.equalIn.eq_def]
  simp only [Sem.run_bind, run_underlying Tryd.underlying4, Result.andThen_ok, Sem.run_pure]
theorem eqlB (a b : Bool) (w : World) : (binOp .eql 4 (.bool a) (.bool b)).run Tryd.prog w = .ok (.bool (a == b)) w := by
  simp [binOp, Sem.run_bind, equalB]
theorem neqB (a b : Bool) (w : World) : (binOp .neq 4 (.bool a) (.bool b)).run Tryd.prog w = .ok (.bool (!(a == b))) w := by
  simp [binOp, Sem.run_bind, equalB]
theorem eqlI (t : TypeId) (k : IntKind) (a b : Int) (w : World) : (binOp .eql t (.int k a) (.int k b)).run Tryd.prog w = .ok (.bool (decide (a = b))) w := by
  by_cases h : a = b <;> simp [binOp, Sem.run_bind, Op.intCmp, h]
theorem neqI (t : TypeId) (k : IntKind) (a b : Int) (w : World) : (binOp .neq t (.int k a) (.int k b)).run Tryd.prog w = .ok (.bool (!decide (a = b))) w := by
  by_cases h : a = b <;> simp [binOp, Sem.run_bind, Op.intCmp, h]

theorem zeroF : (Tryd.prog.info? 24).bind (·.zero) = some (.agg (FC 0).toArray) := by kernel_rfl
theorem zeroP : (Tryd.prog.info? 26).bind (·.zero) = some (.agg (PC 0).toArray) := by kernel_rfl
theorem sizeF : (Tryd.prog.info? 24).map (·.size) = some 6 := by kernel_rfl
theorem sizeP : (Tryd.prog.info? 26).map (·.size) = some 12 := by kernel_rfl

theorem buildF0 (w : World) : (Instr.build 24 #[]).run Tryd.prog w = .ok (FV 0) w :=
  run_build_array (sz := 1) (cs := FC 0) Tryd.underlying24 (by kernel_rfl) zeroF rfl w
theorem buildF1 (w : World) : (Instr.build 24 #[(0, .int .u64 1)]).run Tryd.prog w = .ok (FV 1) w :=
  run_build_array (sz := 1) (cs := FC 1) Tryd.underlying24 (by kernel_rfl) zeroF (by kernel_rfl) w
/-- Limbs that may be anything. -/
def QC (f : Nat → Int) : List Value := [.int .u64 (f 0), .int .u64 (f 1), .int .u64 (f 2), .int .u64 (f 3), .int .u64 (f 4), .int .u64 (f 5)]
def QV (f : Nat → Int) : Value := .agg (QC f).toArray
def QC2 (f g : Nat → Int) : List Value := QC f ++ QC g
def QV2 (f g : Nat → Int) : Value := .agg (QC2 f g).toArray
theorem QV2_of {f g : Nat → Int} {x : F2} (h0 : frv f = FV x.c0) (h1 : frv g = FV x.c1) : QV2 f g = PV x := by
  have e0 : QC f = FC x.c0 := by
    have : (QC f).toArray = (FC x.c0).toArray := by injection h0
    simpa using this
  have e1 : QC g = FC x.c1 := by
    have : (QC g).toArray = (FC x.c1).toArray := by injection h1
    simpa using this
  unfold QV2 QC2 PV PC
  rw [e0, e1]
theorem spl0 (a : F) (x : F2) : Pl.splice (PC x) 0 (FC a) = PC ⟨a, x.c1⟩ := rfl
theorem spl1 (a : F) (x : F2) : Pl.splice (PC x) 6 (FC a) = PC ⟨x.c0, a⟩ := rfl
theorem buildP0 (w : World) : (Instr.build 26 #[]).run Tryd.prog w = .ok (PV 0) w :=
  run_build_array (cs := PC 0) Tryd.underlying26 sizeF zeroP rfl w
theorem buildPa (a : F) (w : World) : (Instr.build 26 #[(0, FV a)]).run Tryd.prog w = .ok (PV ⟨a, 0⟩) w :=
  run_build_array (cs := PC ⟨a, 0⟩) Tryd.underlying26 sizeF zeroP (by
    show Instr.fill _ (PC 0).toArray [(0, .agg (FC a).toArray)] = _
    rw [fill_cons (off := 0) (sz := 6) rfl (FC_len a) (by rw [PC_len]; omega), spl0]; rfl) w
theorem buildP (a b : F) (w : World) : (Instr.build 26 #[(0, FV a), (1, FV b)]).run Tryd.prog w = .ok (PV ⟨a, b⟩) w :=
  run_build_array (cs := PC ⟨a, b⟩) Tryd.underlying26 sizeF zeroP (by
    show Instr.fill _ (PC 0).toArray [(0, .agg (FC a).toArray), (1, .agg (FC b).toArray)] = _
    rw [fill_cons (off := 0) (sz := 6) rfl (FC_len a) (by rw [PC_len]; omega), spl0, fill_cons (off := 6) (sz := 6) rfl (FC_len b) (by rw [PC_len]; omega), spl1]; rfl) w
theorem sizeFC (a : F) : (Tryd.prog.info? 24).map (·.size) = some (FC a).length := by rw [FC_len]; exact sizeF
theorem sizePC (a : F2) : (Tryd.prog.info? 26).map (·.size) = some (PC a).length := by rw [PC_len]; exact sizeP
theorem QC_len (f : Nat → Int) : (QC f).length = 6 := rfl
theorem QC2_len (f g : Nat → Int) : (QC2 f g).length = 12 := rfl
theorem sizeQC (f : Nat → Int) : (Tryd.prog.info? 24).map (·.size) = some (QC f).length := by rw [QC_len]; exact sizeF
theorem sizeQC2 (f g : Nat → Int) : (Tryd.prog.info? 26).map (·.size) = some (QC2 f g).length := by rw [QC2_len]; exact sizeP
theorem ofN1 : (Fin.ofNat RN 1 : F) = 1 := by kernel_rfl
theorem partF2_0 {w : World} {b : Nat} {x : F2} (h : Box w b (PC x)) : w.rangeAt b 0 (FC x.c0) := box_part (pre := []) (post := FC x.c1) h rfl
theorem partF2_1 {w : World} {b : Nat} {x : F2} (h : Box w b (PC x)) : w.rangeAt b 6 (FC x.c1) := box_part (pre := FC x.c0) (post := []) h rfl
theorem partQ2_0 {w : World} {b : Nat} {f g : Nat → Int} (h : Box w b (QC2 f g)) : w.rangeAt b 0 (QC f) := box_part (pre := []) (post := QC g) h rfl
theorem partQ2_1 {w : World} {b : Nat} {f g : Nat → Int} (h : Box w b (QC2 f g)) : w.rangeAt b 6 (QC g) := box_part (pre := QC f) (post := []) h rfl
theorem FpK.of1 {G : World → Prop} (K : FpK G) (w : World) (hg : G w) : Calls Tryd.prog 48 #[.int .u64 1] w (Ret (FV 1) w) := by
  have h := K.of 1 w (by decide) hg
  rw [ofN1] at h
  exact h
theorem RefK.of1 (R : RefK) (w : World) : Calls Tryd.prog 46 #[.int .u64 1] w (Ret (FV 1) w) := by
  have h := R.of 1 w (by decide) trivial
  rw [ofN1] at h
  exact h
end Go.Proofs.YtgoghcmnnhglhaaDoor.fpn

/- The base field: powers, squares, roots, which of two opposites is Great. No program is named here. -/
namespace Go.Proofs.YtgoghcmnnhglhaaDoor.fpn
set_option linter.unusedVariables false

/-- a^n. -/
def fpow (a : F) (n : Nat) : F := Fin.ofNat RN (a.val ^ n)
theorem fpow_val (a : F) (n : Nat) : (fpow a n).val = a.val ^ n % RN := rfl
theorem fpow_add (a : F) (m n : Nat) : fpow a (m + n) = fpow a m * fpow a n := Fin.ext (by
  rw [Fin.val_mul, fpow_val, fpow_val, fpow_val, Nat.pow_add, Nat.mul_mod])
theorem fpow_mul (a b : F) (n : Nat) : fpow (a * b) n = fpow a n * fpow b n := Fin.ext (by
  rw [Fin.val_mul, fpow_val, fpow_val, fpow_val, Fin.val_mul, ← Nat.pow_mod, Nat.mul_pow, Nat.mul_mod])
theorem fpow_one (a : F) : fpow a 1 = a := Fin.ext (by rw [fpow_val, Nat.pow_one, Nat.mod_eq_of_lt a.isLt])
theorem one_val : ((1 : F).val : Int) = 1 := by kernel_rfl
theorem zero_val : (0 : F).val = 0 := rfl
theorem fermatF {a : F} (h : a ≠ 0) : fpow a (RN - 1) = 1 := by
  refine ext_int ?_
  have h0 : (a.val : Int) ≠ 0 := fun e => h (Fin.ext (by
    have : a.val = 0 := by omega
    rw [this]; rfl))
  have := fermatI (A := (a.val : Int)) (by omega) h0 (by rw [RI_RN]; have := a.isLt; omega)
  rw [RI_RN, ← cast_pow_mod] at this
  rw [fpow_val, one_val]
  exact this

theorem no_zero {a b : F} (h : a * b = 0) : a = 0 ∨ b = 0 := by
  by_cases h0 : a = 0
  · exact .inl h0
  · refine .inr ?_
    have := finv_mul h0
    have e : b = finv a * (a * b) := by grind
    rw [e, h]; grind
theorem sq_eq {a b : F} (h : a * a = b * b) : a = b ∨ a = -b := by
  have : (a - b) * (a + b) = 0 := by grind
  rcases no_zero this with h | h
  · exact .inl (by grind)
  · exact .inr (by grind)

theorem two_ne : (2 : F) ≠ 0 := fun h => absurd (congrArg Fin.val h) (by decide +kernel)
theorem neg_one_ne : (-1 : F) ≠ 1 := fun h => absurd (congrArg Fin.val h) (by decide +kernel)

/-- a^((P - 1) / 2). -/
def eul (a : F) : F := fpow a ((RN - 1) / 2)
theorem eul_sq {a : F} (h : a ≠ 0) : eul a * eul a = 1 := by
  unfold eul
  rw [← fpow_add, show (RN - 1) / 2 + (RN - 1) / 2 = RN - 1 by decide +kernel]
  exact fermatF h
theorem eul_or {a : F} (h : a ≠ 0) : eul a = 1 ∨ eul a = -1 := sq_eq (by rw [eul_sq h]; grind)
theorem rt_sq (a : F) : rt a * rt a = a * eul a := by
  have : rt a = fpow a SE := rt_eq a
  rw [this]
  unfold eul
  rw [← fpow_add, show SE + SE = 1 + (RN - 1) / 2 by decide +kernel, fpow_add, fpow_one]
theorem eul_neg_one : eul (-1) = -1 := by
  refine ext_int ?_
  unfold eul
  have h : ((-1 : F).val : Nat) = RN - 1 := by kernel_rfl
  rw [fpow_val, h]
  have : pm RN (RN - 1) 384 ((RN - 1) / 2) = RN - 1 := by decide +kernel
  rw [← pm_eq RN (RN - 1) 384 ((RN - 1) / 2) (by decide +kernel), this]
theorem eul_mul (a b : F) : eul (a * b) = eul a * eul b := fpow_mul a b _
theorem eul_neg (a : F) : eul (-a) = -eul a := by
  rw [show -a = -1 * a by grind, eul_mul, eul_neg_one]; grind
theorem isq_iff {a : F} (h : a ≠ 0) : isq a = true ↔ eul a = 1 := by
  unfold isq
  rw [decide_eq_true_eq, rt_sq]
  refine ⟨fun e => ?_, fun e => by rw [e]; grind⟩
  have h1 := finv_mul h
  have : finv a * (a * eul a) = finv a * a := by rw [e]
  grind
theorem isq_zero : isq 0 = true := by
  unfold isq
  rw [decide_eq_true_eq, rt_sq]; grind
/-- Just the squares have a root. -/
theorem isq_of {a r : F} (h : r * r = a) : isq a = true := by
  by_cases h0 : a = 0
  · rw [h0]; exact isq_zero
  · rw [isq_iff h0]
    have hr : r ≠ 0 := fun e => h0 (by rw [← h, e]; grind)
    rw [← h, eul_mul, eul_sq hr]
/-- Of a number and its opposite one is a square. -/
theorem isq_neg {a : F} (h : isq a = false) : isq (-a) = true := by
  have h0 : a ≠ 0 := fun e => by rw [e, isq_zero] at h; cases h
  have hn : -a ≠ 0 := fun e => h0 (by grind)
  rw [isq_iff hn, eul_neg]
  rcases eul_or h0 with e | e
  · rw [(isq_iff h0).2 e] at h; cases h
  · rw [e]; grind
/-- .. and the other is none. -/
theorem isq_not {a : F} (h0 : a ≠ 0) (h : isq a = true) : isq (-a) = false := by
  have hn : -a ≠ 0 := fun e => h0 (by grind)
  cases hq : isq (-a) with
  | false => rfl
  | true =>
    rw [isq_iff hn, eul_neg, (isq_iff h0).1 h] at hq
    exact absurd hq neg_one_ne
theorem isq_mul {a b : F} (ha : isq a = true) (hb : isq b = true) : isq (a * b) = true := by
  unfold isq at ha hb
  rw [decide_eq_true_eq] at ha hb
  exact isq_of (r := rt a * rt b) (by rw [← ha, ← hb]; grind)
theorem isq_mulN {a b : F} (ha : isq a = false) (hb : isq b = false) : isq (a * b) = true := by
  have h1 := isq_mul (isq_neg ha) (isq_neg hb)
  rwa [show -a * -b = a * b by grind] at h1

/-- Great, of opposites. -/
theorem great_neg {a : F} (h : a ≠ 0) : great (-a) = !great a := by
  have h0 : a.val ≠ 0 := fun e => h (Fin.ext (by rw [e]; rfl))
  have h1 : (-a).val = RN - a.val := by
    have h2 := val_neg a
    have := a.isLt
    rw [RI_RN] at h2
    have h3 : (0 - (a.val : Int)) % (RN : Int) = (RN : Int) - a.val := by
      rw [← Int.add_emod_right, Int.emod_eq_of_lt (by omega) (by omega)]; omega
    omega
  have := a.isLt
  have hodd : RN / 2 + RN / 2 + 1 = RN := by decide +kernel
  unfold great
  rw [h1]
  by_cases hg : RN / 2 < a.val
  · rw [decide_eq_true hg, decide_eq_false (by omega)]; rfl
  · rw [decide_eq_false hg, decide_eq_true (by omega)]; rfl
theorem great_zero : great 0 = false := by kernel_rfl

theorem root_sq {a : F} (h : isq a = true) : root a * root a = a := by
  have h1 : rt a * rt a = a := by unfold isq at h; exact of_decide_eq_true h
  unfold root
  rw [if_pos h]
  split
  · rw [show -rt a * -rt a = rt a * rt a by grind]; exact h1
  · exact h1
theorem root_ne {a : F} (h : isq a = true) (h0 : a ≠ 0) : root a ≠ 0 := fun e => h0 (by
  have := root_sq h; rw [e] at this; rw [← this]; grind)
/-- A sum of two squares is 0 of noughts alone. -/
theorem sum_sq {a b : F} (h : a * a + b * b = 0) : a = 0 ∧ b = 0 := by
  by_cases hb : b = 0
  · refine ⟨?_, hb⟩
    rw [hb] at h
    have : a * a = 0 := by grind
    rcases no_zero this with h | h <;> exact h
  · exfalso
    have h1 : isq (b * b) = true := isq_of rfl
    have hbb : b * b ≠ 0 := fun e => by rcases no_zero e with h | h <;> exact hb h
    have h2 := isq_not hbb h1
    have h3 : isq (-(b * b)) = true := isq_of (r := a) (by grind)
    rw [h2] at h3; cases h3
end Go.Proofs.YtgoghcmnnhglhaaDoor.fpn

/- Pairs: a field; squares and roots. No program is named here. -/
namespace Go.Proofs.YtgoghcmnnhglhaaDoor.fpn
set_option linter.unusedVariables false
namespace F2

theorem norm_zero {x : F2} (h : x.norm = 0) : x = 0 := by
  obtain ⟨h0, h1⟩ := sum_sq (a := x.c0) (b := x.c1) h
  exact ext' h0 h1
theorem norm_ne {x : F2} (h : x ≠ 0) : x.norm ≠ 0 := fun e => h (norm_zero e)
theorem norm_of_zero : (0 : F2).norm = 0 := by kernel_rfl
theorem norm_mul (x y : F2) : (x * y).norm = x.norm * y.norm := by unfold norm; simp only [mul_c0, mul_c1]; grind
theorem mul_comm' (x y : F2) : x * y = y * x := ext' (by simp only [mul_c0]; grind) (by simp only [mul_c1]; grind)
theorem mul_assoc' (x y z : F2) : x * (y * z) = x * y * z := ext' (by simp only [mul_c0, mul_c1]; grind) (by simp only [mul_c0, mul_c1]; grind)
theorem add_mul' (x y z : F2) : (x + y) * z = x * z + y * z := ext' (by simp only [mul_c0, add_c0, add_c1]; grind) (by simp only [mul_c1, add_c0, add_c1]; grind)
theorem conj_mul' (x y : F2) : (x * y).conj = x.conj * y.conj := ext' (by simp only [conj_c0, mul_c0, conj_c1]; grind) (by simp only [conj_c1, mul_c1, conj_c0]; grind)
theorem one_mul' (x : F2) : 1 * x = x := ext' (by simp only [mul_c0, one_c0, one_c1]; grind) (by simp only [mul_c1, one_c0, one_c1]; grind)
theorem mul_one' (x : F2) : x * 1 = x := by rw [mul_comm', one_mul']
theorem fz (z a b : F) (hz : z = 0) : z * a - z * b = z ∧ z * a + z * b = z := ⟨by grind, by grind⟩
theorem zero_mul' (x : F2) : 0 * x = 0 := ext' (fz 0 _ _ rfl).1 (fz 0 _ _ rfl).2
theorem neg_mul_neg' (x y : F2) : -x * -y = x * y := ext' (by simp only [mul_c0, neg_c0, neg_c1]; grind) (by simp only [mul_c1, neg_c0, neg_c1]; grind)
theorem inv_mul {x : F2} (h : x ≠ 0) : x * x.inv = 1 := by
  have hn := finv_mul (norm_ne h)
  unfold inv
  refine ext' ?_ ?_
  · simp only [mul_c0, one_c0]; unfold norm at hn ⊢; grind
  · simp only [mul_c1, one_c1]; grind
theorem no_zero' {x y : F2} (h : x * y = 0) : x = 0 ∨ y = 0 := by
  have : x.norm * y.norm = 0 := by rw [← norm_mul, h, norm_of_zero]
  rcases no_zero this with h | h
  · exact .inl (norm_zero h)
  · exact .inr (norm_zero h)
theorem sq_eq' {x y : F2} (h : x * x = y * y) : x = y ∨ x = -y := by
  have e : (x - y) * (x + y) = 0 := by
    have h0 : x.c0 * x.c0 - x.c1 * x.c1 = y.c0 * y.c0 - y.c1 * y.c1 := congrArg F2.c0 h
    have h1 : x.c0 * x.c1 + x.c1 * x.c0 = y.c0 * y.c1 + y.c1 * y.c0 := congrArg F2.c1 h
    refine ext' ?_ ?_
    · simp only [mul_c0, sub_c0, sub_c1, add_c0, add_c1, zero_c0]; grind
    · simp only [mul_c1, sub_c0, sub_c1, add_c0, add_c1, zero_c1]; grind
  rcases no_zero' e with h | h
  · left
    have h0 : x.c0 - y.c0 = 0 := congrArg F2.c0 h
    have h1 : x.c1 - y.c1 = 0 := congrArg F2.c1 h
    exact ext' (by grind) (by grind)
  · right
    have h0 : x.c0 + y.c0 = 0 := congrArg F2.c0 h
    have h1 : x.c1 + y.c1 = 0 := congrArg F2.c1 h
    exact ext' (by simp only [neg_c0]; grind) (by simp only [neg_c1]; grind)

theorem great_neg' {x : F2} (h : x ≠ 0) : (-x).great = !x.great := by
  unfold great
  simp only [neg_c0, neg_c1]
  by_cases h1 : x.c1 = 0
  · have h0 : x.c0 ≠ 0 := fun e => h (ext' e h1)
    rw [if_pos h1, if_pos (by rw [h1]; grind), fpn.great_neg h0]
  · rw [if_neg h1, if_neg (fun e => h1 (by grind)), fpn.great_neg h1]
theorem great_zero' : (0 : F2).great = false := by
  unfold great
  rw [if_pos (show (0 : F2).c1 = 0 from rfl)]; exact fpn.great_zero

/-- Two roots that are not Great are one. -/
theorem root_uniq {r s : F2} (h : r * r = s * s) (hr : r.great = false) (hs : s.great = false) : r = s := by
  rcases sq_eq' h with e | e
  · exact e
  · by_cases h0 : s = 0
    · rw [e, h0]; exact ext' (by simp only [neg_c0, zero_c0]; grind) (by simp only [neg_c1, zero_c1]; grind)
    · rw [e, great_neg' h0, hs] at hr; cases hr

/-- Is there a root? -/
noncomputable def is2 (a : F2) : Bool := @decide (∃ r : F2, r * r = a) (Classical.propDecidable _)
/-- The root that is not Great; 0 where there is none. -/
noncomputable def sq2 (a : F2) : F2 := @dite _ (∃ r : F2, r * r = a ∧ r.great = false) (Classical.propDecidable _) (fun h => Classical.choose h) (fun _ => 0)
theorem sq2_of {a r : F2} (h : r * r = a) (hg : r.great = false) : sq2 a = r := by
  have hx : ∃ r : F2, r * r = a ∧ r.great = false := ⟨r, h, hg⟩
  unfold sq2
  rw [dif_pos hx]
  have hc := Classical.choose_spec hx
  exact root_uniq (by rw [hc.1, h]) hc.2 hg
theorem is2_of {a r : F2} (h : r * r = a) : is2 a = true := by unfold is2; exact @decide_eq_true _ (Classical.propDecidable _) ⟨r, h⟩
theorem is2_no {a : F2} (h : ∀ r : F2, r * r ≠ a) : is2 a = false ∧ sq2 a = 0 := by
  refine ⟨by unfold is2; exact @decide_eq_false _ (Classical.propDecidable _) (fun ⟨r, hr⟩ => h r hr), ?_⟩
  unfold sq2
  rw [dif_neg (fun ⟨r, hr, _⟩ => h r hr)]

/-- A square's norm is a square. -/
theorem norm_sq {a r : F2} (h : r * r = a) : isq a.norm = true := by
  rw [← h, norm_mul]; exact isq_of rfl

theorem halve {i s c : F} (hi : 2 * i = 1) (e : 2 * s = 2 * c) : s = c := by
  have h1 : s = i * (2 * s) := by grind
  have h2 : c = i * (2 * c) := by grind
  rw [h1, h2, e]
theorem sum2 {t t' c n : F} (ht : t + t = c + n) (ht' : t' + t' = c - n) : (2 : F) * (t + t') = 2 * c := by grind
theorem prod4 {t t' c n d : F} (ht : t + t = c + n) (ht' : t' + t' = c - n) (hn : n * n = c * c + d * d) : 4 * (t * t') = -(d * d) := by
  have : 4 * (t * t') = (t + t) * (t' + t') := by grind
  rw [this, ht, ht']; grind

/-- The halves of a number and its norm's root. -/
theorem cross {a : F2} {n t t' : F} (h1 : a.c1 ≠ 0) (hn : n * n = a.norm) (ht : t + t = a.c0 + n) (ht' : t' + t' = a.c0 - n) :
    t ≠ 0 ∧ t' ≠ 0 ∧ (isq t = true → isq t' = false) ∧ (isq t = false → isq t' = true) ∧ (t + t' = a.c0) ∧ (4 * (t * t') = -(a.c1 * a.c1)) := by
  have e4 : 4 * (t * t') = -(a.c1 * a.c1) := prod4 ht ht' hn
  have hcc : a.c1 * a.c1 ≠ 0 := fun e => by rcases no_zero e with h | h <;> exact h1 h
  have ht0 : t ≠ 0 := fun e => hcc (by rw [e] at e4; grind)
  have ht0' : t' ≠ 0 := fun e => hcc (by rw [e] at e4; grind)
  have hn4 : isq (4 * (t * t')) = false := by rw [e4]; exact isq_not hcc (isq_of rfl)
  have h4 : ∀ x : F, isq x = true → isq (4 * x) = true := fun x hx => isq_of (r := 2 * root x) (by
    have := root_sq hx
    rw [show 2 * root x * (2 * root x) = 4 * (root x * root x) by grind, this])
  refine ⟨ht0, ht0', fun h => ?_, fun h => ?_, ?_, e4⟩
  · cases hq : isq t' with
    | false => rfl
    | true => rw [h4 _ (isq_mul h hq)] at hn4; cases hn4
  · cases hq : isq t' with
    | true => rfl
    | false => rw [h4 _ (isq_mulN h hq)] at hn4; cases hn4
  · exact halve (finv_mul two_ne) (sum2 ht ht')

/-- .. and the root that they make. -/
theorem cross_root {a : F2} {t t' x h i : F} (hh : h + h = 1) (hs : t + t' = a.c0) (h4 : 4 * (t * t') = -(a.c1 * a.c1)) (hx : x * x = t) (hi : x * i = 1) :
    (⟨x, a.c1 * h * i⟩ : F2) * ⟨x, a.c1 * h * i⟩ = a := by
  refine ext' ?_ ?_
  · show x * x - a.c1 * h * i * (a.c1 * h * i) = a.c0
    have e1 : a.c1 * h * i * (a.c1 * h * i) = (a.c1 * a.c1) * (h * h) * (i * i) := by grind
    have e2 : a.c1 * a.c1 = -(4 * (t * t')) := by rw [h4]; grind
    have e3 : 4 * (h * h) = 1 := by
      have : (h + h) * (h + h) = 1 := by rw [hh]; grind
      grind
    have e4 : t * (i * i) = 1 := by rw [← hx]; grind
    rw [e1, e2, ← hs, hx]
    have : -(4 * (t * t')) * (h * h) * (i * i) = -(4 * (h * h)) * (t * (i * i)) * t' := by grind
    rw [this, e3, e4]; grind
  · show x * (a.c1 * h * i) + a.c1 * h * i * x = a.c1
    have : x * (a.c1 * h * i) + a.c1 * h * i * x = a.c1 * (h + h) * (x * i) := by grind
    rw [this, hh, hi]; grind
end F2
end Go.Proofs.YtgoghcmnnhglhaaDoor.fpn

/- Pairs: powers; the power by P is Conj. No program is named here. -/
namespace Go.Proofs.YtgoghcmnnhglhaaDoor.fpn
set_option linter.unusedVariables false
namespace F2

/-- x^n. -/
def pw2 (x : F2) : Nat → F2
  | 0 => 1
  | n + 1 => pw2 x n * x
theorem pw2_add (x : F2) (m : Nat) : ∀ n, pw2 x (m + n) = pw2 x m * pw2 x n
  | 0 => (mul_one' _).symm
  | n + 1 => by rw [← Nat.add_assoc, pw2, pw2_add x m n, pw2, mul_assoc']
theorem swap4 (a b x y : F2) : a * b * (x * y) = a * x * (b * y) := by
  rw [← mul_assoc', mul_assoc' b x y, mul_comm' b x, ← mul_assoc' x b y, mul_assoc']
theorem pw2_mul (x y : F2) : ∀ n, pw2 (x * y) n = pw2 x n * pw2 y n
  | 0 => (mul_one' _).symm
  | n + 1 => by rw [pw2, pw2_mul x y n, pw2, pw2, swap4]
theorem pw2_two (x : F2) (n : Nat) : pw2 x (2 * n) = pw2 x n * pw2 x n := by rw [Nat.two_mul, pw2_add]
theorem pw2_mulexp (x : F2) (m : Nat) : ∀ n, pw2 x (m * n) = pw2 (pw2 x m) n
  | 0 => rfl
  | n + 1 => by rw [Nat.mul_succ, pw2_add, pw2_mulexp x m n, pw2]
theorem pw2_ones : ∀ n, pw2 1 n = 1
  | 0 => rfl
  | n + 1 => by rw [pw2, pw2_ones n, mul_one']

/-- n x. -/
def sm (n : Nat) (x : F2) : F2 := ⟨Fin.ofNat RN n * x.c0, Fin.ofNat RN n * x.c1⟩
theorem ofN_add (m n : Nat) : (Fin.ofNat RN (m + n) : F) = Fin.ofNat RN m + Fin.ofNat RN n := Fin.ext (by
  rw [Fin.val_add]
  show (m + n) % RN = (m % RN + n % RN) % RN
  rw [Nat.add_mod])
theorem fdist (a b c : F) : (a + b) * c = a * c + b * c := by grind
theorem sm_add (m n : Nat) (x : F2) : sm (m + n) x = sm m x + sm n x := ext' (by
  show Fin.ofNat RN (m + n) * x.c0 = Fin.ofNat RN m * x.c0 + Fin.ofNat RN n * x.c0
  rw [ofN_add, fdist]) (by
  show Fin.ofNat RN (m + n) * x.c1 = Fin.ofNat RN m * x.c1 + Fin.ofNat RN n * x.c1
  rw [ofN_add, fdist])
theorem smr (k a b c d : F) : k * (a * c - b * d) = k * a * c - k * b * d := by grind
theorem smr' (k a b c d : F) : k * (a * c + b * d) = k * a * c + k * b * d := by grind
theorem sm_mul (n : Nat) (x y : F2) : sm n (x * y) = sm n x * y := ext' (smr _ _ _ _ _) (smr' _ _ _ _ _)
theorem ofN_zero {n : Nat} (h : RN ∣ n) : (Fin.ofNat RN n : F) = 0 := Fin.ext (by
  show n % RN = 0
  exact Nat.mod_eq_zero_of_dvd h)
theorem zm (z a : F) (hz : z = 0) : z * a = 0 := by subst hz; grind
theorem sm_zero {n : Nat} (h : RN ∣ n) (x : F2) : sm n x = 0 := ext' (zm _ _ (ofN_zero h)) (zm _ _ (ofN_zero h))
theorem om (z a : F) (hz : z = 1) : z * a = a := by grind
theorem sm_one (x : F2) : sm 1 x = x := ext' (om _ _ (by kernel_rfl)) (om _ _ (by kernel_rfl))
theorem add_assoc' (x y z : F2) : x + y + z = x + (y + z) := ext' (by simp only [add_c0]; grind) (by simp only [add_c1]; grind)
theorem add_comm' (x y : F2) : x + y = y + x := ext' (by simp only [add_c0]; grind) (by simp only [add_c1]; grind)
theorem az (a z : F) (hz : z = 0) : a + z = a := by grind
theorem add_zero' (x : F2) : x + 0 = x := ext' (az _ _ rfl) (az _ _ rfl)
theorem zero_add' (x : F2) : 0 + x = x := by rw [add_comm', add_zero']

/-- The first k terms of (z + 1)^n. -/
def bz (n : Nat) (z : F2) : Nat → F2
  | 0 => 0
  | k + 1 => bz n z k + sm (ch n k) (pw2 z k)
theorem bz_succ (n : Nat) (z : F2) : ∀ k, bz (n + 1) z (k + 1) = bz n z (k + 1) + bz n z k * z
  | 0 => by
    show 0 + sm (ch (n + 1) 0) (pw2 z 0) = 0 + sm (ch n 0) (pw2 z 0) + 0 * z
    rw [ch_zero, ch_zero, zero_mul', add_zero']
  | k + 1 => by
    have ih := bz_succ n z k
    rw [bz, ih, ch_succ, sm_add, show bz n z (k + 1 + 1) = bz n z (k + 1) + sm (ch n (k + 1)) (pw2 z (k + 1)) from rfl]
    have e : bz n z (k + 1) * z = bz n z k * z + sm (ch n k) (pw2 z (k + 1)) := by
      rw [show bz n z (k + 1) = bz n z k + sm (ch n k) (pw2 z k) from rfl, add_mul', ← sm_mul]
      rfl
    rw [e]
    generalize bz n z (k + 1) = A
    generalize bz n z k * z = Bq
    generalize sm (ch n k) (pw2 z (k + 1)) = C
    generalize sm (ch n (k + 1)) (pw2 z (k + 1)) = D
    rw [add_assoc', add_assoc', ← add_assoc' D, add_comm' D Bq, ← add_assoc' Bq, add_assoc' Bq D, add_comm' D C, add_assoc' Bq]
theorem bz_over (n : Nat) (z : F2) : bz n z (n + 1 + 1) = bz n z (n + 1) := by
  rw [bz, ch_over n (n + 1) (by omega), sm_zero (n := 0) (Nat.dvd_zero _), add_zero']
theorem binom2 (z : F2) : ∀ n, pw2 (z + 1) n = bz n z (n + 1)
  | 0 => by
    show (1 : F2) = 0 + sm (ch 0 0) 1
    rw [ch_zero, sm_one, zero_add']
  | n + 1 => by
    rw [pw2, binom2 z n, bz_succ n z (n + 1), bz_over, mul_comm', add_mul', one_mul', add_comm', mul_comm' z]
theorem ch_dvd {k : Nat} (h0 : 0 < k) (h1 : k < RN) : RN ∣ ch RN k := by
  obtain ⟨j, rfl⟩ : ∃ j, k = j + 1 := ⟨k - 1, by omega⟩
  have h := ch_mul (RN - 1) j
  rw [show RN - 1 + 1 = RN by decide +kernel] at h
  have hd : RN ∣ (j + 1) * ch RN (j + 1) := ⟨_, h⟩
  rcases pr_RN.of_mul hd with h2 | h2
  · have := Nat.le_of_dvd (by omega) h2; omega
  · exact h2
theorem bz_P (z : F2) : ∀ k, k < RN → bz RN z (k + 1) = 1
  | 0, _ => by
    show 0 + sm (ch RN 0) 1 = 1
    rw [ch_zero, sm_one, zero_add']
  | k + 1, h => by rw [bz, bz_P z k (by omega), sm_zero (ch_dvd (by omega) h), add_zero']
/-- (z + 1)^P = 1 + z^P. -/
theorem dream2 (z : F2) : pw2 (z + 1) RN = 1 + pw2 z RN := by
  have h := bz_P z (RN - 1) (by decide +kernel)
  rw [show RN - 1 + 1 = RN by decide +kernel] at h
  rw [binom2, bz, h, ch_self, sm_one]
/-- A number of the base field, as a pair. -/
def lift (a : F) : F2 := ⟨a, 0⟩
def uu : F2 := ⟨0, 1⟩
theorem l1 (a b z : F) (hz : z = 0) : a * b - z * z = a * b := by grind
theorem l2 (a b z : F) (hz : z = 0) : a * z + z * b = z := by grind
theorem lift_mul (a b : F) : lift a * lift b = lift (a * b) := ext' (l1 _ _ _ rfl) (l2 _ _ _ rfl)
theorem lift_pw (a : F) : ∀ n, pw2 (lift a) n = lift (fpow a n)
  | 0 => by
    show (1 : F2) = lift (fpow a 0)
    have : fpow a 0 = 1 := Fin.ext (by rw [fpow_val, Nat.pow_zero]; decide +kernel)
    rw [this]; rfl
  | n + 1 => by rw [pw2, lift_pw a n, lift_mul, fpow_add, fpow_one]
theorem fpow_P (a : F) : fpow a RN = a := by
  by_cases h : a = 0
  · subst h
    exact Fin.ext (by rw [fpow_val, zero_val, Nat.zero_pow (by decide)]; rfl)
  · rw [show RN = (RN - 1) + 1 by decide +kernel, fpow_add, fermatF h, fpow_one]; exact om _ _ rfl
theorem uu_sq : uu * uu = -1 := by kernel_rfl
theorem uu_four : pw2 uu 4 = 1 := by kernel_rfl
theorem uu_P : pw2 uu RN = uu.conj := by
  rw [show RN = 4 * (RN / 4) + 3 by decide +kernel, pw2_add, pw2_mulexp, uu_four, pw2_ones, one_mul']
  kernel_rfl
theorem m1 (b z o : F) (hz : z = 0) (ho : o = 1) : b * z - z * o = z ∧ b * o + z * z = b ∧ b * z - z * (-o) = z ∧ b * (-o) + z * z = -b := ⟨by grind, by grind, by grind, by grind⟩
theorem lift_uu (b : F) : lift b * uu = ⟨0, b⟩ := ext' (m1 b 0 1 rfl rfl).1 (m1 b 0 1 rfl rfl).2.1
theorem lift_uuc (b : F) : lift b * uu.conj = ⟨0, -b⟩ := ext' (m1 b 0 1 rfl rfl).2.2.1 (m1 b 0 1 rfl rfl).2.2.2
theorem m2 (a c z o : F) (hz : z = 0) (ho : o = 1) : a * (z + o) - z * (c + z) = a ∧ a * (c + z) + z * (z + o) = a * c ∧ a * (o + z) - z * (z + c) = a ∧ a * (z + c) + z * (o + z) = a * c := ⟨by grind, by grind, by grind, by grind⟩
theorem split (a c : F) : lift a * ((⟨0, c⟩ : F2) + 1) = ⟨a, a * c⟩ := ext' (m2 a c 0 1 rfl rfl).1 (m2 a c 0 1 rfl rfl).2.1
theorem split' (a c : F) : lift a * (1 + (⟨0, c⟩ : F2)) = ⟨a, a * c⟩ := ext' (m2 a c 0 1 rfl rfl).2.2.1 (m2 a c 0 1 rfl rfl).2.2.2
theorem pure_P (b : F) : pw2 (⟨0, b⟩ : F2) RN = ⟨0, -b⟩ := by rw [← lift_uu, pw2_mul, lift_pw, fpow_P, uu_P, lift_uuc]
/-- The power by P. -/
theorem frob (x : F2) : pw2 x RN = x.conj := by
  obtain ⟨a, b⟩ := x
  by_cases ha : a = 0
  · subst ha; exact pure_P b
  · have hi := finv_mul ha
    have e : (⟨a, b⟩ : F2) = lift a * ((⟨0, finv a * b⟩ : F2) + 1) := by
      rw [split]
      exact ext' rfl (show b = a * (finv a * b) by grind)
    rw [e, pw2_mul, lift_pw, fpow_P, dream2, pure_P, split', split]
    exact ext' rfl (show a * -(finv a * b) = -(a * (finv a * b)) by grind)
end F2
end Go.Proofs.YtgoghcmnnhglhaaDoor.fpn
