/- FV WX WY WZ WP WQ BX. -/
import Derived.Test.YtccidmogamnihaaGA
import Derived.Laws.StructEq
import Derived.Laws.IdiomArrays
import Derived.ProofKit
import Derived.WalkKit
import Derived.OpenShut
import Derived.ShutString
import Derived.ChangeOld
import Derived.Below
/- Scalars as numbers and as values: R, four limbs in a block, how two are compared. -/
namespace Go.Proofs.Ytccidmogamnihaa
set_option maxRecDepth 4000
open Go.RowKit
attribute [local go_sem ↓] Go.wp_at_zero Go.wp_at_succ
set_option linter.unusedVariables false

def RI : Int := 52435875175126190479447740508185965837690552500527637822603658699938581184513
def rL : Nat → Int
  | 0 => 18446744069414584321
  | 1 => 6034159408538082302
  | 2 => 3691218898639771653
  | 3 => 8353516859464449352
  | _ => 0
theorem rL_rg : Rg rL 4 := fun i hi => by
  rcases (show i = 0 ∨ i = 1 ∨ i = 2 ∨ i = 3 by omega) with rfl | rfl | rfl | rfl <;> rw [B64_eq] <;> decide
theorem rL_val : val rL 4 = RI := by decide +kernel
def frv (f : Nat → Int) : Value := .agg #[.int .u64 (f 0), .int .u64 (f 1), .int .u64 (f 2), .int .u64 (f 3)]
theorem mut_four (w : World) (f : Nat → Int) (t : TypeId) : Mut (w.alloc (.cells #[.int .u64 (f 0), .int .u64 (f 1), .int .u64 (f 2), .int .u64 (f 3)] t)) w.heap.size 0 4 f := fun j hj => by
  rcases (show j = 0 ∨ j = 1 ∨ j = 2 ∨ j = 3 by omega) with rfl | rfl | rfl | rfl <;> simp
theorem below_drew {w x : World} (h : Below w.drew.heap.size w.drew x) : Below w.heap.size w x := (show Below w.heap.size w w.drew from ⟨rfl, rfl, rfl, Nat.le_refl _, fun _ _ => rfl⟩).trans h
theorem mut_noughts (w : World) (t : TypeId) : Mut (w.alloc (.cells #[.int .u64 0, .int .u64 0, .int .u64 0, .int .u64 0] t)) w.heap.size 0 4 Z := mut_four w Z t
theorem mut_two (w : World) (t t' : TypeId) : Mut ((w.alloc (.cells #[.int .u64 0, .int .u64 0, .int .u64 0, .int .u64 0] t)).alloc (.cells #[.int .u64 0, .int .u64 0, .int .u64 0, .int .u64 0] t')) (w.heap.size + 1) 0 4 Z ∧
    Mut ((w.alloc (.cells #[.int .u64 0, .int .u64 0, .int .u64 0, .int .u64 0] t)).alloc (.cells #[.int .u64 0, .int .u64 0, .int .u64 0, .int .u64 0] t')) w.heap.size 0 4 Z := by
  refine ⟨?_, (mut_noughts w t).below (B := (w.alloc (.cells #[.int .u64 0, .int .u64 0, .int .u64 0, .int .u64 0] t)).heap.size) (below_one _ _) (by rw [World.size_alloc]; omega)⟩
  have := mut_noughts (w.alloc (.cells #[.int .u64 0, .int .u64 0, .int .u64 0, .int .u64 0] t)) t'
  rwa [World.size_alloc] at this
theorem MutK.cells4 {k : IntKind} {w : World} {b : Nat} {f : Nat → Int} (h : MutK k w b 0 4 f) :
    w.cell? ⟨b, 0, none⟩ = some (.int k (f 0)) ∧ w.cell? ⟨b, 1, none⟩ = some (.int k (f 1)) ∧ w.cell? ⟨b, 2, none⟩ = some (.int k (f 2)) ∧ w.cell? ⟨b, 3, none⟩ = some (.int k (f 3)) :=
  ⟨(h 0 (by omega)).1, (h 1 (by omega)).1, (h 2 (by omega)).1, (h 3 (by omega)).1⟩
theorem MutK.free4 {k : IntKind} {w : World} {b : Nat} {f : Nat → Int} (h : MutK k w b 0 4 f) :
    w.frozen? ⟨b, 0, none⟩ = false ∧ w.frozen? ⟨b, 1, none⟩ = false ∧ w.frozen? ⟨b, 2, none⟩ = false ∧ w.frozen? ⟨b, 3, none⟩ = false :=
  ⟨(h 0 (by omega)).2, (h 1 (by omega)).2, (h 2 (by omega)).2, (h 3 (by omega)).2⟩
theorem below_set4 {B b : Nat} {w x : World} (h : Below B w x) (hb : B ≤ b) (v0 v1 v2 v3 : Value) :
    Below B w ((((x.setCell ⟨b, 0, none⟩ v0).setCell ⟨b, 1, none⟩ v1).setCell ⟨b, 2, none⟩ v2).setCell ⟨b, 3, none⟩ v3) := (((h.setCell hb _).setCell hb _).setCell hb _).setCell hb _
theorem size64 : (Try.prog.info? 32).map (·.size) = some 1 := by kernel_rfl
theorem frv_lm (f : Nat → Int) : frv (lm f 4) = frv f := by
  unfold frv; rw [lm_in (by omega), lm_in (by omega), lm_in (by omega), lm_in (by omega)]
def IsFr (v : Value) (x : Int) : Prop := ∃ f, v = .agg #[.int .u64 (f 0), .int .u64 (f 1), .int .u64 (f 2), .int .u64 (f 3)] ∧ Rg f 4 ∧ val f 4 = x
theorem val_Z (n : Nat) : val Z n = 0 := val_zero fun _ _ => rfl
theorem Z_rg (n : Nat) : Rg Z n := fun _ _ => ⟨Int.le_refl _, B64_pos⟩
def pair (w : World) (f : Nat → Int) (t : TypeId) : World :=
  (w.alloc (.cells #[.int .u64 (f 0), .int .u64 (f 1), .int .u64 (f 2), .int .u64 (f 3)] t)).alloc (.cells #[.int .u64 0, .int .u64 0, .int .u64 0, .int .u64 0] t)
def three (w : World) (f g : Nat → Int) (t : TypeId) : World :=
  ((w.alloc (.cells #[.int .u64 (f 0), .int .u64 (f 1), .int .u64 (f 2), .int .u64 (f 3)] t)).alloc (.cells #[.int .u64 (g 0), .int .u64 (g 1), .int .u64 (g 2), .int .u64 (g 3)] t)).alloc (.cells #[.int .u64 0, .int .u64 0, .int .u64 0, .int .u64 0] t)
theorem three_all (w : World) (f g : Nat → Int) (t : TypeId) : Below w.heap.size w (three w f g t) ∧ (three w f g t).heap.size = w.heap.size + 3 ∧ At (three w f g t) (some ⟨w.heap.size, 0, none⟩) 4 f ∧ At (three w f g t) (some ⟨w.heap.size + 1, 0, none⟩) 4 g ∧ Mut (three w f g t) (w.heap.size + 2) 0 4 Z := by
  unfold three
  have m1 := mut_four w f t
  have m2 := mut_four (w.alloc (.cells #[.int .u64 (f 0), .int .u64 (f 1), .int .u64 (f 2), .int .u64 (f 3)] t)) g t
  rw [World.size_alloc] at m2
  have m3 := mut_noughts ((w.alloc (.cells #[.int .u64 (f 0), .int .u64 (f 1), .int .u64 (f 2), .int .u64 (f 3)] t)).alloc (.cells #[.int .u64 (g 0), .int .u64 (g 1), .int .u64 (g 2), .int .u64 (g 3)] t)) t
  rw [World.size_alloc, World.size_alloc] at m3
  refine ⟨Below.up (below_two _ _ _) (Nat.le_refl _) (below_one _ _), by simp [World.size_alloc], ?_, ?_, m3⟩
  · exact (m1.at.below (below_one _ _)).below (below_one _ _)
  · exact m2.at.below (below_one _ _)
theorem RI_pos : 0 < RI := by decide
theorem modR_lt (x : Int) : x % RI < RI := Int.emod_lt_of_pos _ RI_pos
theorem mut_set4 {w : World} {b : Nat} {f : Nat → Int} (h : Mut w b 0 4 f) (g : Nat → Int) :
    Mut ((((w.setCell ⟨b, 0, none⟩ (.int .u64 (g 0))).setCell ⟨b, 1, none⟩ (.int .u64 (g 1))).setCell ⟨b, 2, none⟩ (.int .u64 (g 2))).setCell ⟨b, 3, none⟩ (.int .u64 (g 3))) b 0 4 g := by
  refine MutK.congr ((((h.set0 (i := 0) (by omega) (g 0)).set0 (i := 1) (by omega) (g 1)).set0 (i := 2) (by omega) (g 2)).set0 (i := 3) (by omega) (g 3)) fun j hj => ?_
  rcases (show j = 0 ∨ j = 1 ∨ j = 2 ∨ j = 3 by omega) with rfl | rfl | rfl | rfl <;> simp [up]
def cL : Nat → Int
  | 0 => 14526898881837571181
  | 1 => 3129137299524312099
  | 2 => 419701826671360399
  | 3 => 524908885293268753
  | _ => 0
theorem cL_rg : Rg cL 4 := fun i hi => by
  rcases (show i = 0 ∨ i = 1 ∨ i = 2 ∨ i = 3 by omega) with rfl | rfl | rfl | rfl <;> rw [B64_eq] <;> decide
theorem cL_lt : val cL 4 < val rL 4 := by decide +kernel
theorem cL_val : val cL 4 % RI = pw 4 * pw 4 % RI := by decide +kernel
def uI : Int := 12549076656233958353659347336803947287922716146853412054870763148006372261952
def gL : Nat → Int
  | 0 => 4046931900703378731
  | 1 => 13129826145616953529
  | 2 => 15031722638446171060
  | 3 => 1631043718794977056
  | _ => 0
theorem val_one4 (x : Int) : val (one x) 4 = x := by simp [val, one, pw]
end Go.Proofs.Ytccidmogamnihaa

/- What the document's answers to the scalars are, as numbers: R, fr, MayR, AddR, SubR, NegR, MulR, OfR. -/
namespace Go.Proofs.Ytccidmogamnihaa
set_option maxRecDepth 4000
open Go.RowKit
attribute [local go_sem ↓] Go.wp_at_zero Go.wp_at_succ
set_option linter.unusedVariables false

theorem rL_inv : nwt (rL 0) 6 * rL 0 % B64 = 1 := by decide +kernel

theorem refR_any (w : World) : Calls Try.prog 22 #[] w fun e w' => e = .returned (.slice (some ⟨w.heap.size, 0, none⟩) 4 4) ∧ Below w.heap.size w w' ∧ w'.heap.size = w.heap.size + 1 ∧ Mut w' w.heap.size 0 4 rL := by
  go_enter Try.func22, Try.ntmps22
  go_wp2
  go_ret
  exact ⟨rfl, below_one _ _, World.size_alloc _ _, mut_four w rL _⟩

theorem mayR_any (f : Nat → Int) (w : World) (rf : Rg f 4) : Calls Try.prog 11 #[frv f] w fun e w' => e = .returned (.bool (decide (val f 4 < RI))) ∧ Below w.heap.size w w' := by
  unfold frv
  have hA := mut_four w f 34
  have B1 := below_one w (.cells #[.int .u64 (f 0), .int .u64 (f 1), .int .u64 (f 2), .int .u64 (f 3)] 34)
  have z1 := World.size_alloc w (.cells #[.int .u64 (f 0), .int .u64 (f 1), .int .u64 (f 2), .int .u64 (f 3)] 34)
  go_enter Try.func11, Try.ntmps11
  go_wp2_with fail
  generalize w.alloc (.cells #[.int .u64 (f 0), .int .u64 (f 1), .int .u64 (f 2), .int .u64 (f 3)] 34) = W at *
  have HA : Hid _ := hA
  have HB1 : Hid _ := B1
  have Z1 : Hid _ := z1
  clear hA B1 z1
  go_region_with (first
    | (go_at_call 22; refine Calls.mono (refR_any _) ?_; rintro e w2 ⟨rfl, b2, z2, m2⟩; have HB2 : Hid (Below W.heap.size W w2) := (by first | exact b2 | exact below_drew b2); have Z2 : Hid _ := z2; have HM2 : Hid _ := m2; clear b2 z2 m2)
    | (go_at_call 21; refine Calls.mono (below_any _ _ 4 4 4 4 f rL _ (by omega) (by omega) (AtK.below (MutK.at HA.out) HB2.out) (MutK.at HM2.out) rf rL_rg) ?_; rintro e w3 ⟨rfl, q, rfl⟩))
  all_goals
    go_wp2
    go_ret
    exact ⟨by rw [rL_val]; rfl, below_draws (Below.up HB1.out (Nat.le_refl _) HB2.out) q⟩

theorem refFr_any (p : Option Addr) (n cap : Nat) (f : Nat → Int) (w : World) (hn : n ≤ 4) (ha : At w p n f) : Calls Try.prog 44 #[.slice p n cap] w fun e w' => e = .returned (frv (lm f n)) ∧ Below w.heap.size w w' := by
  obtain ⟨m1, m0⟩ := mut_two w 34 34
  have hB := below_two w (.cells #[.int .u64 0, .int .u64 0, .int .u64 0, .int .u64 0] 34) (.cells #[.int .u64 0, .int .u64 0, .int .u64 0, .int .u64 0] 34)
  have ha' := ha.below hB
  go_enter Try.func44, Try.ntmps44
  go_wp2_with (refine wpList_copy_lim .u64 (by rfl) (.tmp 4) (.tmp 5) 51 51 (by rfl) 32 Try.underlying51 size64 (w.heap.size + 1) 0 4 4 p n cap Z f (by rfl) (by rfl) m1 ha' hn ?_; intro w4 hu4 hm4; have k4 : Mut w4 (w.heap.size + 1) 0 4 (lm f n) := hm4; obtain ⟨x0, x1, x2, x3⟩ := k4.cells4; obtain ⟨y0, y1, y2, y3⟩ := (m0.upd hu4 (by omega)).cells4; obtain ⟨z0, z1, z2, z3⟩ := (m0.upd hu4 (by omega)).free4; have HU : Hid _ := hu4; have HB : Hid _ := hB; clear hm4 k4 m1 m0 hu4 hB ha ha')
  refine bodyPost_ret (v := frv (lm f n)) (by simp [results, Try.results44, go_sem, frv, y0, y1, y2, y3]) rfl ⟨rfl, ?_⟩
  exact ((((Below.trans HB.out (Upd.below HU.out (by omega))).setCell (Nat.le_refl _) _).setCell (Nat.le_refl _) _).setCell (Nat.le_refl _) _).setCell (Nat.le_refl _) _

theorem Fix.fr {w w' : World} {v : Value} {x : Int} (h : Fix w w' v 4 x) : Below w.heap.size w w' ∧ ∃ p cap f, v = .slice p 4 cap ∧ At w' p 4 f ∧ Rg f 4 ∧ val f 4 = x := by
  obtain ⟨h1, b, off, c, f, rfl, -, -, -, -, hm, hr, hv⟩ := h
  exact ⟨h1, _, c, f, rfl, hm.at, hr, hv⟩

theorem refFr4_any (p : Option Addr) (cap : Nat) (f : Nat → Int) (w : World) (ha : At w p 4 f) : Calls Try.prog 44 #[.slice p 4 cap] w fun e w' => e = .returned (.agg #[.int .u64 (f 0), .int .u64 (f 1), .int .u64 (f 2), .int .u64 (f 3)]) ∧ Below w.heap.size w w' := by
  have := refFr_any p 4 cap f w (Nat.le_refl _) ha
  rw [frv_lm] at this
  exact this

theorem addR_any (f g : Nat → Int) (w : World) (rf : Rg f 4) (rg : Rg g 4) (lf : val f 4 < RI) (lg : val g 4 < RI) :
    Calls Try.prog 34 #[frv f, frv g] w fun e w' => ∃ v, e = .returned v ∧ IsFr v ((val f 4 + val g 4) % RI) ∧ Below w.heap.size w w' := by
  rw [← rL_val] at lf lg ⊢
  unfold frv
  have LF : Hid _ := lf
  have LG : Hid _ := lg
  clear lf lg
  obtain ⟨B1, z1, hF, hG, hR⟩ := three_all w f g 34
  unfold three at B1 z1 hF hG hR
  go_enter Try.func34, Try.ntmps34
  go_wp2_with fail
  generalize ((w.alloc (.cells #[.int .u64 (f 0), .int .u64 (f 1), .int .u64 (f 2), .int .u64 (f 3)] 34)).alloc (.cells #[.int .u64 (g 0), .int .u64 (g 1), .int .u64 (g 2), .int .u64 (g 3)] 34)).alloc (.cells #[.int .u64 0, .int .u64 0, .int .u64 0, .int .u64 0] 34) = W at *
  have HB1 : Hid _ := B1
  have Z1 : Hid _ := z1
  have HF : Hid _ := hF
  have HG : Hid _ := hG
  have HR : Hid _ := hR
  clear B1 z1 hF hG hR
  go_region_with (first
    | (go_at_call 22; refine Calls.mono (refR_any _) ?_; rintro e w2 ⟨rfl, b2, -, m2⟩; have HB2 : Hid (Below W.heap.size W w2) := (by first | exact b2 | exact below_drew b2); have HM2 : Hid (At w2 (some ⟨W.heap.size, 0, none⟩) 4 rL) := m2.at; clear b2 m2)
    | (go_at_call 45; refine Calls.mono (plus_any _ _ _ 4 4 4 4 f g rL _ (by omega) (by omega) (AtK.below HF.out HB2.out) (AtK.below HG.out HB2.out) HM2.out rf rg rL_rg LF.out LG.out) ?_; rintro e w3 ⟨v3, rfl, fx⟩; obtain ⟨b3, p3, c3, h3, rfl, a3, r3, v3⟩ := fx.fr; have HB3 : Hid _ := Below.up HB2.out (Nat.le_refl _) b3; have A3 : Hid _ := a3; have R3 : Hid _ := r3; have V3 : Hid _ := v3; clear b3 a3 r3 v3 fx)
    | (go_at_call 44; refine Calls.mono (refFr4_any p3 c3 h3 _ A3.out) ?_; rintro e w4 ⟨rfl, b4⟩; have b5 : Below W.heap.size W w4 := Below.up HB3.out (Nat.le_refl _) b4; obtain ⟨y0, y1, y2, y3⟩ := (MutK.below HR.out b5 (by rw [Z1.out]; omega)).cells4; obtain ⟨z0, z1, z2, z3⟩ := (MutK.below HR.out b5 (by rw [Z1.out]; omega)).free4; have HB4 : Hid _ := Below.up HB1.out (Nat.le_refl _) b5; clear b4 b5))
  all_goals
    go_wp2
    refine bodyPost_ret (v := .agg #[.int .u64 (h3 0), .int .u64 (h3 1), .int .u64 (h3 2), .int .u64 (h3 3)]) (by simp [results, Try.results34, go_sem, y0, y1, y2, y3]) rfl ⟨_, rfl, ⟨h3, rfl, R3.out, V3.out⟩, ?_⟩
    exact below_set4 HB4.out (by omega) _ _ _ _

theorem refOf_any (n : Int) (w : World) : Calls Try.prog 36 #[.int .u64 n] w fun e w' => e = .returned (.agg #[.int .u64 n, .int .u64 0, .int .u64 0, .int .u64 0]) ∧ Below w.heap.size w w' := by
  go_enter Try.func36, Try.ntmps36
  go_wp2
  refine bodyPost_ret (v := .agg #[.int .u64 n, .int .u64 0, .int .u64 0, .int .u64 0]) (by simp [results, Try.results36, go_sem]) rfl ⟨rfl, below_one _ _⟩

end Go.Proofs.Ytccidmogamnihaa

/- What the document's MulR answers: the product modulo R, by Montgomery's way twice. -/
namespace Go.Proofs.Ytccidmogamnihaa
set_option maxRecDepth 4000
open Go.RowKit
attribute [local go_sem ↓] Go.wp_at_zero Go.wp_at_succ
set_option linter.unusedVariables false

theorem twice {A B r s : Int} (h1 : r * pw 4 % RI = A * B % RI) (h2 : s * pw 4 % RI = r * val cL 4 % RI) (hs : 0 ≤ s ∧ s < RI) : s = A * B % RI := by
  have e1 : s * pw 4 % RI = (A * B) * pw 4 % RI := by
    rw [h2, ← mul_mod_r r, cL_val, mul_mod_r, ← Int.mul_assoc, ← mul_mod_l, h1, mul_mod_l]
  have e2 : s * pw 4 * uI % RI = (A * B) * pw 4 * uI % RI := by rw [← mul_mod_l, e1, mul_mod_l]
  have e3 : pw 4 * uI % RI = 1 := by decide +kernel
  rw [Int.mul_assoc, ← mul_mod_r, e3, Int.mul_assoc (A * B), ← mul_mod_r (A * B), e3, Int.mul_one, Int.mul_one] at e2
  rw [← e2]; exact (Int.emod_eq_of_lt hs.1 hs.2).symm

theorem below_da (w : World) (o : Obj) : Below w.heap.size w (w.drew.alloc o) := below_drew (below_one _ _)
theorem below_of_da {w x : World} {o : Obj} (h : Below (w.drew.alloc o).heap.size (w.drew.alloc o) x) : Below w.heap.size w x := Below.up (below_da w o) (Nat.le_refl _) h
theorem lit_da (w : World) (t : TypeId) : At (w.drew.alloc (.cells #[.int .u64 14526898881837571181, .int .u64 3129137299524312099, .int .u64 419701826671360399, .int .u64 524908885293268753] t)) (some ⟨w.heap.size, 0, none⟩) 4 cL := (mut_four w.drew cL t).at
theorem lit_a (w : World) (t : TypeId) : At (w.alloc (.cells #[.int .u64 14526898881837571181, .int .u64 3129137299524312099, .int .u64 419701826671360399, .int .u64 524908885293268753] t)) (some ⟨w.heap.size, 0, none⟩) 4 cL := (mut_four w cL t).at

theorem mulR_any (f g : Nat → Int) (w : World) (rf : Rg f 4) (rg : Rg g 4) (lg : val g 4 < RI) :
    Calls Try.prog 35 #[frv f, frv g] w fun e w' => ∃ v, e = .returned v ∧ IsFr v ((val f 4 * val g 4) % RI) ∧ Below w.heap.size w w' := by
  unfold frv
  have LG : Hid (val g 4 < val rL 4) := by show _ < _; rw [rL_val]; exact lg
  clear lg
  obtain ⟨B1, z1, hF, hG, hR⟩ := three_all w f g 34
  unfold three at B1 z1 hF hG hR
  go_enter Try.func35, Try.ntmps35
  go_wp2_with fail
  generalize ((w.alloc (.cells #[.int .u64 (f 0), .int .u64 (f 1), .int .u64 (f 2), .int .u64 (f 3)] 34)).alloc (.cells #[.int .u64 (g 0), .int .u64 (g 1), .int .u64 (g 2), .int .u64 (g 3)] 34)).alloc (.cells #[.int .u64 0, .int .u64 0, .int .u64 0, .int .u64 0] 34) = W at *
  refine Calls.mono (refR_any _) ?_
  rintro e w2 ⟨rfl, b2, -, m2⟩
  have HB1 : Hid _ := Below.up B1 (Nat.le_refl _) b2
  have HF : Hid _ := hF.below b2
  have HG : Hid _ := hG.below b2
  have HM : Hid _ := m2.at
  have HR : Hid _ := hR.below b2 (by rw [z1]; omega)
  have HL : Hid (w.heap.size + 2 < w2.heap.size) := by have := b2.size; show _ < _; omega
  clear B1 z1 hF hG hR b2 m2
  generalize W.heap.size = sm at *
  go_wp2_with fail
  go_region_with (first
    | (go_at_call_of 46 (Value.slice (some ⟨w.heap.size, 0, none⟩) 4 4); refine Calls.mono (mont_any _ _ _ 4 4 4 4 f g rL _ (by omega) (by omega) ?_ ?_ ?_ rf rg rL_rg LG.out rL_inv) ?_; (first | exact HF.out | exact AtK.below HF.out (below_da _ _)); (first | exact HG.out | exact AtK.below HG.out (below_da _ _)); (first | exact HM.out | exact AtK.below HM.out (below_da _ _)); rintro e w3 ⟨v3, r, rfl, fx, lr, mr⟩; obtain ⟨b3, p3, c3, h3, rfl, a3, r3, v3⟩ := fx.fr; (first | (have HC3 : Hid (At w3 (some ⟨w2.heap.size, 0, none⟩) 4 cL) := AtK.below (lit_da _ _) b3) | skip); have HB3 : Hid (Below w2.heap.size w2 w3) := (by first | exact below_drew b3 | exact below_of_da b3); have A3 : Hid _ := a3; have R3 : Hid _ := r3; have V3 : Hid _ := v3; have MR : Hid _ := mr; clear b3 a3 r3 v3 fx lr mr)
    | (go_at_call 46; refine Calls.mono (mont_any p3 _ _ 4 c3 4 4 h3 cL rL _ (by omega) (by omega) ?_ ?_ ?_ R3.out cL_rg rL_rg cL_lt rL_inv) ?_; (first | exact A3.out | exact AtK.below A3.out (below_one _ _)); (first | exact HC3.out | exact lit_a _ _); (first | exact AtK.below HM.out HB3.out | exact AtK.below HM.out (Below.up HB3.out (Nat.le_refl _) (below_one _ _))); rintro e w4 ⟨v4, s, rfl, fx4, lr4, mr4⟩; obtain ⟨b4, p4, c4, h4, rfl, a4, r4, v4⟩ := fx4.fr; have HB4 : Hid (Below w2.heap.size w2 w4) := (by first | exact Below.up HB3.out (Nat.le_refl _) b4 | exact Below.up (Below.up HB3.out (Nat.le_refl _) (below_one _ _)) (Nat.le_refl _) b4); have A4 : Hid _ := a4; have R4 : Hid _ := r4; have V4 : Hid _ := v4; have MR4 : Hid _ := mr4; have LR4 : Hid _ := lr4; clear b4 a4 r4 v4 fx4 mr4 lr4)
    | (go_at_call 44; refine Calls.mono (refFr4_any p4 c4 h4 _ A4.out) ?_; rintro e w5 ⟨rfl, b4⟩; have b5 : Below w2.heap.size w2 w5 := Below.up HB4.out (Nat.le_refl _) b4; obtain ⟨y0, y1, y2, y3⟩ := (MutK.below HR.out b5 HL.out).cells4; obtain ⟨z0, z1, z2, z3⟩ := (MutK.below HR.out b5 HL.out).free4; have HB5 : Hid _ := Below.up HB1.out (Nat.le_refl _) b5; clear b4 b5))
  all_goals
    go_wp2
    refine bodyPost_ret (v := .agg #[.int .u64 (h4 0), .int .u64 (h4 1), .int .u64 (h4 2), .int .u64 (h4 3)]) (by simp [results, Try.results35, go_sem, y0, y1, y2, y3]) rfl ⟨_, rfl, ⟨h4, rfl, R4.out, ?_⟩, ?_⟩
    · have k1 := MR.out
      have k2 := MR4.out
      have k3 := LR4.out
      have k4 := (val_bd R4.out).1
      rw [rL_val] at k1 k2 k3
      rw [V4.out] at k4 ⊢
      rw [V3.out] at k2
      exact twice k1 k2 ⟨k4, k3⟩
    · exact below_set4 HB5.out (by omega) _ _ _ _
end Go.Proofs.Ytccidmogamnihaa

/- What the document's PowR answers: powers modulo R. -/
namespace Go.Proofs.Ytccidmogamnihaa
set_option maxRecDepth 4000
open Go.RowKit
attribute [local go_sem ↓] Go.wp_at_zero Go.wp_at_succ
set_option linter.unusedVariables false

theorem mulR_agg (f g : Nat → Int) (w : World) (rf : Rg f 4) (rg : Rg g 4) (lg : val g 4 < RI) :
    Calls Try.prog 35 #[.agg #[.int .u64 (f 0), .int .u64 (f 1), .int .u64 (f 2), .int .u64 (f 3)], .agg #[.int .u64 (g 0), .int .u64 (g 1), .int .u64 (g 2), .int .u64 (g 3)]] w fun e w' => ∃ h, e = .returned (.agg #[.int .u64 (h 0), .int .u64 (h 1), .int .u64 (h 2), .int .u64 (h 3)]) ∧ Rg h 4 ∧ val h 4 = val f 4 * val g 4 % RI ∧ Below w.heap.size w w' := by
  refine Calls.mono (mulR_any f g w rf rg lg) ?_
  rintro e w' ⟨v, rfl, ⟨h, rfl, r, v⟩, b⟩
  exact ⟨h, rfl, r, v, b⟩

end Go.Proofs.Ytccidmogamnihaa

/- What the document's Take answers. -/
namespace Go.Proofs.Ytccidmogamnihaa
set_option maxRecDepth 4000
open Go.RowKit
set_option linter.unusedVariables false
attribute [local go_sem ↓] Go.wp_at_zero Go.wp_at_succ

end Go.Proofs.Ytccidmogamnihaa

/- What the document's Put answers. -/
namespace Go.Proofs.Ytccidmogamnihaa
set_option maxRecDepth 4000
open Go.RowKit
set_option linter.unusedVariables false

end Go.Proofs.Ytccidmogamnihaa

/- How two scalars are compared; what the document's InvR, RootR and WideR answer. -/
namespace Go.Proofs.Ytccidmogamnihaa
open Go.RowKit
attribute [local go_sem ↓] Go.wp_at_zero Go.wp_at_succ
set_option maxRecDepth 4000
set_option linter.unusedVariables false

end Go.Proofs.Ytccidmogamnihaa

/- What the document's WideR, PutR, TakeR answer. -/
namespace Go.Proofs.Ytccidmogamnihaa
open Go.RowKit
attribute [local go_sem ↓] Go.wp_at_zero Go.wp_at_succ
set_option maxRecDepth 4000
set_option linter.unusedVariables false

theorem addR_agg (f g : Nat → Int) (w : World) (rf : Rg f 4) (rg : Rg g 4) (lf : val f 4 < RI) (lg : val g 4 < RI) :
    Calls Try.prog 34 #[.agg #[.int .u64 (f 0), .int .u64 (f 1), .int .u64 (f 2), .int .u64 (f 3)], .agg #[.int .u64 (g 0), .int .u64 (g 1), .int .u64 (g 2), .int .u64 (g 3)]] w fun e w' => ∃ h, e = .returned (.agg #[.int .u64 (h 0), .int .u64 (h 1), .int .u64 (h 2), .int .u64 (h 3)]) ∧ Rg h 4 ∧ val h 4 = (val f 4 + val g 4) % RI ∧ Below w.heap.size w w' := by
  refine Calls.mono (addR_any f g w rf rg lf lg) ?_
  rintro e w' ⟨v, rfl, ⟨h, rfl, r, v⟩, b⟩
  exact ⟨h, rfl, r, v, b⟩

def bv (g : Nat → Int) : Nat → Int
  | 0 => 0
  | n + 1 => bv g n * 256 + g n

theorem wide_step {g : Nat → Int} {j : Nat} {H M : Int} (h : H = bv g j % RI) (hM : M = H * 256 % RI) : (M + g j) % RI = bv g (j + 1) % RI := by
  rw [hM, h, mul_mod_l, Int.emod_add_emod]; rfl

theorem mulR_256 (h : Nat → Int) (w : World) (rh : Rg h 4) :
    Calls Try.prog 35 #[.agg #[.int .u64 (h 0), .int .u64 (h 1), .int .u64 (h 2), .int .u64 (h 3)], .agg #[.int .u64 256, .int .u64 0, .int .u64 0, .int .u64 0]] w fun e w' => ∃ k, e = .returned (.agg #[.int .u64 (k 0), .int .u64 (k 1), .int .u64 (k 2), .int .u64 (k 3)]) ∧ Rg k 4 ∧ val k 4 = val h 4 * 256 % RI ∧ Below w.heap.size w w' := by
  have := mulR_agg h (one 256) w rh (one_rg ⟨by decide, by rw [B64_eq]; decide⟩ 4) (by rw [val_one4]; decide)
  rw [val_one4] at this
  exact this
theorem addR_byte (h : Nat → Int) (x : Int) (w : World) (rh : Rg h 4) (lh : val h 4 < RI) (hx : 0 ≤ x ∧ x < 256) :
    Calls Try.prog 34 #[.agg #[.int .u64 (h 0), .int .u64 (h 1), .int .u64 (h 2), .int .u64 (h 3)], .agg #[.int .u64 x, .int .u64 0, .int .u64 0, .int .u64 0]] w fun e w' => ∃ k, e = .returned (.agg #[.int .u64 (k 0), .int .u64 (k 1), .int .u64 (k 2), .int .u64 (k 3)]) ∧ Rg k 4 ∧ val k 4 = (val h 4 + x) % RI ∧ Below w.heap.size w w' := by
  have := addR_agg h (one x) w rh (one_rg ⟨hx.1, by rw [B64_eq]; omega⟩ 4) lh (by rw [val_one4]; have : (256 : Int) < RI := by decide
                                                                                  omega)
  rw [val_one4] at this
  exact this

theorem wideR_any (p : Option Addr) (n cap : Nat) (g : Nat → Int) (w : World) (hc : AtK .u8 w p n g) (hg : ∀ j, j < n → 0 ≤ g j ∧ g j < 256) (hN : n ≤ 100000) :
    Calls Try.prog 20 #[.slice p n cap] w fun e w' => ∃ v, e = .returned v ∧ IsFr v (bv g n % RI) ∧ Below w.heap.size w w' := by
  have hR : Mut (w.alloc (.cells #[.int .u64 0, .int .u64 0, .int .u64 0, .int .u64 0] 34)) w.heap.size 0 4 Z := mut_noughts w _
  have hX := mut_four (w.alloc (.cells #[.int .u64 0, .int .u64 0, .int .u64 0, .int .u64 0] 34)) Z 34
  have b1 := below_one w (.cells #[.int .u64 0, .int .u64 0, .int .u64 0, .int .u64 0] 34)
  have b2 := below_one (w.alloc (.cells #[.int .u64 0, .int .u64 0, .int .u64 0, .int .u64 0] 34)) (.cells #[.int .u64 0, .int .u64 0, .int .u64 0, .int .u64 0] 34)
  have z1 := World.size_alloc w (.cells #[.int .u64 0, .int .u64 0, .int .u64 0, .int .u64 0] 34)
  have hc1 := hc.below b1
  go_enter Try.func20, Try.ntmps20
  go_wp2_with fail
  generalize w.alloc (.cells #[.int .u64 0, .int .u64 0, .int .u64 0, .int .u64 0] 34) = W1 at *
  rw [z1] at hX b2
  have HR : Hid _ := hR
  have HX : Hid _ := hX
  have HB1 : Hid _ := b1
  have HB2 : Hid _ := b2
  have Z1 : Hid _ := z1
  have HC : Hid _ := hc1
  have HG : Hid _ := hg
  clear hR hX b1 b2 z1 hc hc1 hg
  go_loopw [4] (fun i wr => ∃ (j : Nat) (h : Nat → Int), j ≤ n ∧ i = .int .i64 j ∧ Below (w.heap.size + 1) W1 wr ∧ Mut wr (w.heap.size + 1) 0 4 h ∧ Rg h 4 ∧ val h 4 = bv g j % RI) (fun i _ => n - (intOf i).toNat)
  case atStart => exact ⟨0, Z, Nat.zero_le _, rfl, HB2.out, HX.out, Z_rg 4, by rw [val_Z]; rfl⟩
  case round =>
    obtain ⟨j, h, hj2, rfl, hbel, hW, rh, vh⟩ := hrel
    by_cases hlt : j < n
    · obtain ⟨x0, x1, x2, x3⟩ := hW.cells4
      obtain ⟨b, off, rfl, hcb⟩ := HC.out (by omega)
      have cl : b < w.heap.size + 1 := by rw [← Z1.out]; exact cell_lt (hcb j hlt)
      have c0 : wr.cell? ⟨b, off + j, none⟩ = some (.int .u8 (g j)) := (hbel.cell (p := ⟨b, off + j, none⟩) cl).trans (hcb j hlt)
      have bl : w.heap.size + 1 < wr.heap.size := cell_lt x0
      have gj := HG.out j hlt
      have ew : IntKind.u64.wrap (g j) = g j := by rw [IntKind.wrap_u64]; omega
      have EW : Hid _ := ew
      have GJ : Hid _ := gj
      have CL : Hid (b < wr.heap.size) := Nat.lt_trans cl bl
      have C0 : Hid _ := c0
      have BL : Hid _ := bl
      have HW : Hid _ := hW
      have HB : Hid _ := hbel
      have RH : Hid _ := rh
      have VH : Hid _ := vh
      clear bl hW hbel rh vh hcb cl ew gj
      go_wp2_with fail
      go_region_with (first
        | (go_at_call_of 36 (256 : Int); refine Calls.mono (refOf_any _ _) ?_; rintro e w2 ⟨rfl, b2⟩; have hb2 : Below wr.heap.size wr w2 := (by first | exact b2 | exact below_drew b2); obtain ⟨p0, p1, p2, p3⟩ := (MutK.below HW.out hb2 BL.out).cells4; have c2 : w2.cell? ⟨b, off + j, none⟩ = some (.int .u8 (g j)) := (hb2.cell (p := ⟨b, off + j, none⟩) CL.out).trans C0.out; have HB2 : Hid _ := hb2; clear b2 hb2)
        | (go_at_call 35; refine Calls.mono (mulR_256 h _ RH.out) ?_; rintro e w3 ⟨h3, rfl, r3, v3, b3⟩; have hb3 : Below wr.heap.size wr w3 := Below.up HB2.out (Nat.le_refl _) b3; have c3 : w3.cell? ⟨b, off + j, none⟩ = some (.int .u8 (g j)) := (hb3.cell (p := ⟨b, off + j, none⟩) CL.out).trans C0.out; have HB3 : Hid _ := hb3; have R3 : Hid _ := r3; have V3 : Hid _ := v3; clear b3 hb3 r3 v3)
        | (go_at_call 36; refine Calls.mono (refOf_any _ _) ?_; rintro e w4 ⟨rfl, b4⟩; have HB4 : Hid (Below wr.heap.size wr w4) := Below.up HB3.out (Nat.le_refl _) b4; clear b4)
        | (go_at_call 34; rw [EW.out]; refine Calls.mono (addR_byte h3 (g j) _ R3.out (by rw [V3.out]; exact modR_lt _) GJ.out) ?_; rintro e w5 ⟨h5, rfl, r5, v5, b5⟩; have hb5 : Below wr.heap.size wr w5 := Below.up HB4.out (Nat.le_refl _) b5; have k5 := MutK.below HW.out hb5 BL.out; obtain ⟨y0, y1, y2, y3⟩ := k5.cells4; obtain ⟨z0, z1, z2, z3⟩ := k5.free4; have M5 : Hid _ := mut_set4 k5 h5; have B5 : Hid _ := below_set4 (Below.trans HB.out (hb5.mono (Nat.le_of_lt BL.out))) (Nat.le_refl _) (.int .u64 (h5 0)) (.int .u64 (h5 1)) (.int .u64 (h5 2)) (.int .u64 (h5 3)); have R5 : Hid _ := r5; have V5 : Hid _ := v5; clear k5 r5 v5 b5 hb5))
      all_goals
        go_wp2
        go_roundw
        case rel => exact ⟨j + 1, h5, by omega, by go_num, B5.out, M5.out, R5.out, by rw [V5.out]; exact wide_step VH.out V3.out⟩
        case measure => simp [intOf]; omega
    · have e : n = j := by omega
      subst e
      obtain ⟨x0, x1, x2, x3⟩ := hW.cells4
      obtain ⟨y0, y1, y2, y3⟩ := (MutK.below HR.out hbel (by omega)).cells4
      obtain ⟨z0, z1, z2, z3⟩ := (MutK.below HR.out hbel (by omega)).free4
      have HB : Hid _ := Below.trans HB1.out (hbel.mono (Nat.le_succ _))
      have RH : Hid _ := rh
      have VH : Hid _ := vh
      clear hbel hW rh vh
      go_wp2
      refine bodyPost_ret (v := .agg #[.int .u64 (h 0), .int .u64 (h 1), .int .u64 (h 2), .int .u64 (h 3)]) (by simp [results, Try.results20, go_sem, y0, y1, y2, y3]) rfl ⟨_, rfl, ⟨h, rfl, RH.out, VH.out⟩, ?_⟩
      exact below_set4 HB.out (by omega) _ _ _ _
end Go.Proofs.Ytccidmogamnihaa

/- What the document's PutR and TakeR answer; bytes as a number. -/
namespace Go.Proofs.Ytccidmogamnihaa
open Go.RowKit
attribute [local go_sem ↓] Go.wp_at_zero Go.wp_at_succ
set_option maxRecDepth 4000
set_option linter.unusedVariables false

def lv (g : Nat → Int) (n : Nat) : Nat → Int
  | 0 => 0
  | i + 1 => lv g n i + g (n - 1 - i) * 256 ^ i

theorem pow_256 (i : Nat) : (2 : Int) ^ (8 * (i % 8)) * pw (i / 8) = 256 ^ i := by
  rw [← two_pow_64, ← Int.pow_add, show 8 * (i % 8) + 64 * (i / 8) = 8 * i by omega, Int.pow_mul]; rfl

theorem val_up {f h : Nat → Int} {L q : Nat} {x : Int} (hq : q < L) (e1 : ∀ i, i < L → i ≠ q → h i = f i) (e2 : h q = f q + x) : val h L = val f L + x * pw q := by
  induction L with
  | zero => omega
  | succ L ih =>
    rw [val, val]
    by_cases c : q = L
    · subst c
      rw [val_congr (g := f) (fun i hi => e1 i (by omega) (by omega)), e2, Int.add_mul]; omega
    · rw [ih (by omega) (fun i hi => e1 i (by omega)), e1 L (by omega) (by omega)]; omega

theorem pl_lv (g : Nat → Int) (n L : Nat) : ∀ i, i ≤ 8 * L → val (pl g n i) L = lv g n i
  | 0, _ => val_zero fun q _ => by unfold pl; rw [show min 8 (0 - 8 * q) = 0 by omega]; rfl
  | i + 1, h => by
    rw [val_up (f := pl g n i) (q := i / 8) (by omega) (fun q _ hq => pl_other hq) (pl_at g n i), pl_lv g n L i (by omega), lv, Int.mul_assoc, pow_256]

theorem lv_up (g : Nat → Int) (n : Nat) : ∀ i, i ≤ n → lv g (n + 1) (i + 1) = g n + 256 * lv g n i
  | 0, _ => by simp [lv]
  | i + 1, h => by
    rw [lv, lv_up g n i (by omega), lv, show n + 1 - 1 - (i + 1) = n - 1 - i by omega, Int.pow_succ, Int.mul_add, Int.mul_comm (256 ^ i), ← Int.mul_assoc, Int.mul_comm (g _), Int.mul_assoc]
    omega

theorem lv_bv (g : Nat → Int) : ∀ n, lv g n n = bv g n
  | 0 => rfl
  | n + 1 => by rw [lv_up g n n (Nat.le_refl _), lv_bv g n, bv]; omega

theorem pl_bv (g : Nat → Int) (n : Nat) : val (pl g n n) ((n + 7) / 8) = bv g n := by
  rw [pl_lv g n _ n (by omega), lv_bv]
end Go.Proofs.Ytccidmogamnihaa

/- What an array of four limbs that comes in gives the walks. -/
namespace Go.Proofs.Ytccidmogamnihaa
open Go.ChangeShapes Go.WideShapes Go.ChangeAt Go.RowKit
set_option maxRecDepth 4000
set_option linter.unusedVariables false

end Go.Proofs.Ytccidmogamnihaa
