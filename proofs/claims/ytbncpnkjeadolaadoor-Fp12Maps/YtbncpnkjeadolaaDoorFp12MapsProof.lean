/- Fp12Maps: for every two sixes of pairs and every pair of six limbs each the program's statement Fp12Maps answers true and leaves its arguments as they were; no condition but that the package variable holds what the program's text lays in it. -/
import Derived.Test.YtbncpnkjeadolaaDoorRows
import Derived.Test.YtbncpnkjeadolaaDoorSFp12Maps
import Derived.WalkKit
import Derived.ProofKit
import Derived.OpenShut
import Derived.ShutString
import Derived.ChangeOld
import Derived.Below
import Derived.Test.YtbncpnkjeadolaaDoorGH
import Derived.Test.YtbncpnkjeadolaaDoorCards
import Derived.Test.YtbncpnkjeadolaaDoorTie
import Derived.SevenTiedAt
namespace Go.Proofs.YtbncpnkjeadolaaDoor.fpn.fp12Maps
open Go.ChangeShapes Go.WideShapes Go.ChangeAt Go.RowKit
set_option linter.unusedVariables false

theorem own : ownKnob Tryd.prog.godebug = none := by kernel_rfl
theorem laidOut : laidOutB Tryd.prog = true := by kernel_rfl

theorem walk (f0a g0a f0b g0b f0c g0c f0d g0d f0e g0e f0f g0f : Nat → Int) (f1a g1a f1b g1b f1c g1c f1d g1d f1e g1e f1f g1f : Nat → Int) (f2 g2 : Nat → Int) (w : World) (hg : G2 w) (wf0a : Rg f0a 6) (wg0a : Rg g0a 6) (wf0b : Rg f0b 6) (wg0b : Rg g0b 6) (wf0c : Rg f0c 6) (wg0c : Rg g0c 6) (wf0d : Rg f0d 6) (wg0d : Rg g0d 6) (wf0e : Rg f0e 6) (wg0e : Rg g0e 6) (wf0f : Rg f0f 6) (wg0f : Rg g0f 6) (wf1a : Rg f1a 6) (wg1a : Rg g1a 6) (wf1b : Rg f1b 6) (wg1b : Rg g1b 6) (wf1c : Rg f1c 6) (wg1c : Rg g1c 6) (wf1d : Rg f1d 6) (wg1d : Rg g1d 6) (wf1e : Rg f1e 6) (wg1e : Rg g1e 6) (wf1f : Rg f1f 6) (wg1f : Rg g1f 6) (w2 : Rg f2 6) (y2 : Rg g2 6) :
    Calls Tryd.prog 5 #[QV12 f0a g0a f0b g0b f0c g0c f0d g0d f0e g0e f0f g0f, QV12 f1a g1a f1b g1b f1c g1c f1d g1d f1e g1e f1f g1f, QV2 f2 g2] w fun e w' => e = .returned (.bool true) ∧ Below w.heap.size w w' := by
  exact fp12Maps_walk fpK2 refK f0a g0a f0b g0b f0c g0c f0d g0d f0e g0e f0f g0f f1a g1a f1b g1b f1c g1c f1d g1d f1e g1e f1f g1f f2 g2 wf0a wg0a wf0b wg0b wf0c wg0c wf0d wg0d wf0e wg0e wf0f wg0f wf1a wg1a wf1b wg1b wf1c wg1c wf1d wg1d wf1e wg1e wf1f wg1f w2 y2 w hg

set_option maxRecDepth 100000 in
theorem lifted (os : Os) (started : os.Started) (H : Type) (enc : TypeId × Value → H) :
    ReturnsInHanded {} Tryd.checked os 5 .any (fun w args => (Rows.fp12MapsSpec.pre enc Tryd.prog Tryd.f5 [] false w args ∧ laidMetH Tryd.prog laid2 w) ∧ sizedMet enc Tryd.prog Tryd.f5 (OpenSpec.ofChange Rows.fp12MapsSpec) false w args) (Rows.fp12MapsSpec.post enc Tryd.prog Tryd.f5 false true false false) := by
  refine returnsInHanded_of_change_and (C := Tryd.checked) (X := fun w _ => laidMetH Tryd.prog laid2 w) (fun _ _ _ hh h => h.of_heap hh) own started (by kernel_rfl) Tryd.func5
    (ChangeSpec.witness_shaped (enc := enc) (C := Tryd.checked) (os := os) (X := fun w _ => laidMetH Tryd.prog laid2 w) false (World.doorLaid Tryd.prog 400 os) #[.agg #[.int .u64 0, .int .u64 0, .int .u64 0, .int .u64 0, .int .u64 0, .int .u64 0, .int .u64 0, .int .u64 0, .int .u64 0, .int .u64 0, .int .u64 0, .int .u64 0, .int .u64 0, .int .u64 0, .int .u64 0, .int .u64 0, .int .u64 0, .int .u64 0, .int .u64 0, .int .u64 0, .int .u64 0, .int .u64 0, .int .u64 0, .int .u64 0, .int .u64 0, .int .u64 0, .int .u64 0, .int .u64 0, .int .u64 0, .int .u64 0, .int .u64 0, .int .u64 0, .int .u64 0, .int .u64 0, .int .u64 0, .int .u64 0, .int .u64 0, .int .u64 0, .int .u64 0, .int .u64 0, .int .u64 0, .int .u64 0, .int .u64 0, .int .u64 0, .int .u64 0, .int .u64 0, .int .u64 0, .int .u64 0, .int .u64 0, .int .u64 0, .int .u64 0, .int .u64 0, .int .u64 0, .int .u64 0, .int .u64 0, .int .u64 0, .int .u64 0, .int .u64 0, .int .u64 0, .int .u64 0, .int .u64 0, .int .u64 0, .int .u64 0, .int .u64 0, .int .u64 0, .int .u64 0, .int .u64 0, .int .u64 0, .int .u64 0, .int .u64 0, .int .u64 0, .int .u64 0], .agg #[.int .u64 0, .int .u64 0, .int .u64 0, .int .u64 0, .int .u64 0, .int .u64 0, .int .u64 0, .int .u64 0, .int .u64 0, .int .u64 0, .int .u64 0, .int .u64 0, .int .u64 0, .int .u64 0, .int .u64 0, .int .u64 0, .int .u64 0, .int .u64 0, .int .u64 0, .int .u64 0, .int .u64 0, .int .u64 0, .int .u64 0, .int .u64 0, .int .u64 0, .int .u64 0, .int .u64 0, .int .u64 0, .int .u64 0, .int .u64 0, .int .u64 0, .int .u64 0, .int .u64 0, .int .u64 0, .int .u64 0, .int .u64 0, .int .u64 0, .int .u64 0, .int .u64 0, .int .u64 0, .int .u64 0, .int .u64 0, .int .u64 0, .int .u64 0, .int .u64 0, .int .u64 0, .int .u64 0, .int .u64 0, .int .u64 0, .int .u64 0, .int .u64 0, .int .u64 0, .int .u64 0, .int .u64 0, .int .u64 0, .int .u64 0, .int .u64 0, .int .u64 0, .int .u64 0, .int .u64 0, .int .u64 0, .int .u64 0, .int .u64 0, .int .u64 0, .int .u64 0, .int .u64 0, .int .u64 0, .int .u64 0, .int .u64 0, .int .u64 0, .int .u64 0, .int .u64 0], .agg #[.int .u64 0, .int .u64 0, .int .u64 0, .int .u64 0, .int .u64 0, .int .u64 0, .int .u64 0, .int .u64 0, .int .u64 0, .int .u64 0, .int .u64 0, .int .u64 0]] 8 rfl (World.shaped_of_RefB (by kernel_rfl) (by kernel_rfl)) (by kernel_rfl) (by kernel_rfl) (by kernel_rfl) (door_met os _)) ?_
  intro W base args ds gs before hval0 hW hcnd _ hL _
  have hval : ∀ (j : Nat) t v, Tryd.f5.params[j]? = some t → args[j]? = some v → Value.okWide Tryd.prog W .any base t v := hval0
  have hW' := hW
  obtain ⟨p, q, hA0, hV, rfl, hfz, hnd⟩ := hW
  have hA : DataW.TrodAll enc Tryd.prog W 0 (fun _ => true) true Tryd.f5.params.toList args.toList ds p := hA0
  rw [Tryd.params5] at hA hval
  obtain ⟨v0, vs0, d0, ds0, p0, q0, hargs, rfl, rfl, h0, r0⟩ := trodAll_cons hA
  obtain ⟨v1, vs1, d1, ds1, p1, q1, rfl, rfl, rfl, h1, r1⟩ := trodAll_cons r0
  obtain ⟨v2, vs2, d2, ds2, p2, q2, rfl, rfl, rfl, h2, r2⟩ := trodAll_cons r1
  obtain ⟨rfl, rfl, rfl⟩ := trodAll_nil r2
  obtain rfl : args = #[v0, v1, v2] := by cases args; simp_all
  obtain ⟨rfl, rfl⟩ := trodVars_none hV
  obtain ⟨f0a, g0a, f0b, g0b, f0c, g0c, f0d, g0d, f0e, g0e, f0f, g0f, rfl, wf0a, wg0a, wf0b, wg0b, wf0c, wg0c, wf0d, wg0d, wf0e, wg0e, wf0f, wg0f⟩ := open_fp12 (hval 0 30 v0 rfl rfl) h0
  have k0 := h0
  have lt0 : ∀ x ∈ p0, x.block < W.heap.size := by obtain ⟨m, hm⟩ := k0; exact DataW.trod_lt m _ _ _ hm
  obtain ⟨f1a, g1a, f1b, g1b, f1c, g1c, f1d, g1d, f1e, g1e, f1f, g1f, rfl, wf1a, wg1a, wf1b, wg1b, wf1c, wg1c, wf1d, wg1d, wf1e, wg1e, wf1f, wg1f⟩ := open_fp12 (hval 1 30 v1 rfl rfl) h1
  have k1 := h1
  have lt1 : ∀ x ∈ p1, x.block < W.heap.size := by obtain ⟨m, hm⟩ := k1; exact DataW.trod_lt m _ _ _ hm
  obtain ⟨f2, g2, rfl, w2, y2⟩ := open_fp2 (hval 2 26 v2 rfl rfl) h2
  have k2 := h2
  have lt2 : ∀ x ∈ p2, x.block < W.heap.size := by obtain ⟨m, hm⟩ := k2; exact DataW.trod_lt m _ _ _ hm
  clear hA0 hval0
  refine (walk f0a g0a f0b g0b f0c g0c f0d g0d f0e g0e f0f g0f f1a g1a f1b g1b f1c g1c f1d g1d f1e g1e f1f g1f f2 g2 W (of_laid hL) wf0a wg0a wf0b wg0b wf0c wg0c wf0d wg0d wf0e wg0e wf0f wg0f wf1a wg1a wf1b wg1b wf1c wg1c wf1d wg1d wf1e wg1e wf1f wg1f w2 y2).mono fun e W' ⟨he, bel⟩ => ?_
  subst he
  exact ⟨_, rfl, _, _, _, [], _, [], hW', trodAll_mk1 (shut_bool Tryd.underlying4 _), (trodAll_cons_mk (Below.trod laidOut (by kernel_rfl) (of_decide_eq_true (by kernel_rfl)) k0 bel lt0) (trodAll_cons_mk (Below.trod laidOut (by kernel_rfl) (of_decide_eq_true (by kernel_rfl)) k1 bel lt1) (trodAll_cons_mk (Below.trod laidOut (by kernel_rfl) (of_decide_eq_true (by kernel_rfl)) k2 bel lt2) trodAll_mk0))), rfl, bel.frame _, fun h => by cases h⟩

theorem over : Rows.fp12MapsRow.holds Tryd.pinned (OpenSpec.ofChange Rows.fp12MapsSpec) :=
  OpenClaim.holds_of_wide 5 Tryd.f5 rfl rfl rfl rfl rfl rfl rfl ⟨rfl, rfl, rfl, rfl, rfl⟩ rfl rfl rfl rfl rfl (by kernel_rfl) Tryd.func5 (by kernel_rfl)
    (of_decide_eq_true (by kernel_rfl)) (by unfold Func.isWrapper; first | (rw [if_pos (by decide +kernel)]; kernel_rfl) | (rw [if_neg (by decide +kernel)]; exact ⟨rfl, rfl⟩))
    (fun os started H enc _ => lifted os started H enc)

/-- The statement. -/
theorem proved : Rows.Fp12MapsCardSaid :=
  Claim7.holds_tied_plain_at .later [] [.data] true (true, "ed9556e14d7313718e6ec0586b78d007fcd9f48f2e451e58c64ce10bd0a8ba6a") false
    over (fun _ h => by cases h) (by kernel_rfl) (fun _ h => by cases h) fp12Maps_row_tie rfl ⟨rfl, rfl⟩ (by kernel_rfl) rfl
    (fun f fn hf hfn => by
      obtain rfl : f = 5 := Option.some.inj ((show Tryd.prog.funcNamed Rows.fp12MapsRow.func = some 5 by kernel_rfl).symm.trans hf) |>.symm
      obtain rfl : fn = Tryd.f5 := (Option.some.inj (Tryd.func5.symm.trans hfn)).symm
      exact ⟨by kernel_rfl, fun j t ht => by
        rw [Tryd.params5] at ht
        have hm : t ∈ [30, 26] := by simpa using Array.mem_of_getElem? ht
        have hall : ([30, 26].all fun u => !Tryd.prog.wantsStandIn u) = true := by kernel_rfl
        exact (show Tryd.prog.wantsStandIn t = false by simpa using List.all_eq_true.1 hall t hm)⟩)
    (by kernel_rfl)
end Go.Proofs.YtbncpnkjeadolaaDoor.fpn.fp12Maps

theorem Go.Proofs.YtbncpnkjeadolaaDoor.fp12Maps_holds : Go.Proofs.YtbncpnkjeadolaaDoor.Rows.Fp12MapsCardSaid := Go.Proofs.YtbncpnkjeadolaaDoor.fpn.fp12Maps.proved
#print axioms Go.Proofs.YtbncpnkjeadolaaDoor.fp12Maps_holds
