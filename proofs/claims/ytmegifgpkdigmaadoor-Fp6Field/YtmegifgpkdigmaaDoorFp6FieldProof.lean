/- Fp6Field: for every three threes of pairs of six limbs each the program's statement Fp6Field answers true and leaves its arguments as they were; no condition but that the package variable holds what the program's text lays in it. -/
import Derived.Test.YtmegifgpkdigmaaDoorRows
import Derived.Test.YtmegifgpkdigmaaDoorSFp6Field
import Derived.WalkKit
import Derived.ProofKit
import Derived.OpenShut
import Derived.ShutString
import Derived.ChangeOld
import Derived.Below
import Derived.Test.YtmegifgpkdigmaaDoorGH
import Derived.Test.YtmegifgpkdigmaaDoorCards
import Derived.Test.YtmegifgpkdigmaaDoorTie
import Derived.SevenTiedAt
namespace Go.Proofs.YtmegifgpkdigmaaDoor.fpn.fp6Field
open Go.ChangeShapes Go.WideShapes Go.ChangeAt Go.RowKit
set_option linter.unusedVariables false

theorem own : ownKnob Tryd.prog.godebug = none := by kernel_rfl
theorem laidOut : laidOutB Tryd.prog = true := by kernel_rfl

theorem walk (f0a g0a f0b g0b f0c g0c : Nat → Int) (f1a g1a f1b g1b f1c g1c : Nat → Int) (f2a g2a f2b g2b f2c g2c : Nat → Int) (w : World) (hg : G2 w) (wf0a : Rg f0a 6) (wg0a : Rg g0a 6) (wf0b : Rg f0b 6) (wg0b : Rg g0b 6) (wf0c : Rg f0c 6) (wg0c : Rg g0c 6) (wf1a : Rg f1a 6) (wg1a : Rg g1a 6) (wf1b : Rg f1b 6) (wg1b : Rg g1b 6) (wf1c : Rg f1c 6) (wg1c : Rg g1c 6) (wf2a : Rg f2a 6) (wg2a : Rg g2a 6) (wf2b : Rg f2b 6) (wg2b : Rg g2b 6) (wf2c : Rg f2c 6) (wg2c : Rg g2c 6) :
    Calls Tryd.prog 4 #[QV6 f0a g0a f0b g0b f0c g0c, QV6 f1a g1a f1b g1b f1c g1c, QV6 f2a g2a f2b g2b f2c g2c] w fun e w' => e = .returned (.bool true) ∧ Below w.heap.size w w' := by
  exact fp6Field_walk fpK2 refK f0a g0a f0b g0b f0c g0c f1a g1a f1b g1b f1c g1c f2a g2a f2b g2b f2c g2c wf0a wg0a wf0b wg0b wf0c wg0c wf1a wg1a wf1b wg1b wf1c wg1c wf2a wg2a wf2b wg2b wf2c wg2c w hg

set_option maxRecDepth 100000 in
theorem lifted (os : Os) (started : os.Started) (H : Type) (enc : TypeId × Value → H) :
    ReturnsInHanded {} Tryd.checked os 4 .any (fun w args => (Rows.fp6FieldSpec.pre enc Tryd.prog Tryd.f4 [] false w args ∧ laidMetH Tryd.prog laid2 w) ∧ sizedMet enc Tryd.prog Tryd.f4 (OpenSpec.ofChange Rows.fp6FieldSpec) false w args) (Rows.fp6FieldSpec.post enc Tryd.prog Tryd.f4 false true false false) := by
  refine returnsInHanded_of_change_and (C := Tryd.checked) (X := fun w _ => laidMetH Tryd.prog laid2 w) (fun _ _ _ hh h => h.of_heap hh) own started (by kernel_rfl) Tryd.func4
    (ChangeSpec.witness_shaped (enc := enc) (C := Tryd.checked) (os := os) (X := fun w _ => laidMetH Tryd.prog laid2 w) false (World.doorLaid Tryd.prog 400 os) #[.agg #[.int .u64 0, .int .u64 0, .int .u64 0, .int .u64 0, .int .u64 0, .int .u64 0, .int .u64 0, .int .u64 0, .int .u64 0, .int .u64 0, .int .u64 0, .int .u64 0, .int .u64 0, .int .u64 0, .int .u64 0, .int .u64 0, .int .u64 0, .int .u64 0, .int .u64 0, .int .u64 0, .int .u64 0, .int .u64 0, .int .u64 0, .int .u64 0, .int .u64 0, .int .u64 0, .int .u64 0, .int .u64 0, .int .u64 0, .int .u64 0, .int .u64 0, .int .u64 0, .int .u64 0, .int .u64 0, .int .u64 0, .int .u64 0], .agg #[.int .u64 0, .int .u64 0, .int .u64 0, .int .u64 0, .int .u64 0, .int .u64 0, .int .u64 0, .int .u64 0, .int .u64 0, .int .u64 0, .int .u64 0, .int .u64 0, .int .u64 0, .int .u64 0, .int .u64 0, .int .u64 0, .int .u64 0, .int .u64 0, .int .u64 0, .int .u64 0, .int .u64 0, .int .u64 0, .int .u64 0, .int .u64 0, .int .u64 0, .int .u64 0, .int .u64 0, .int .u64 0, .int .u64 0, .int .u64 0, .int .u64 0, .int .u64 0, .int .u64 0, .int .u64 0, .int .u64 0, .int .u64 0], .agg #[.int .u64 0, .int .u64 0, .int .u64 0, .int .u64 0, .int .u64 0, .int .u64 0, .int .u64 0, .int .u64 0, .int .u64 0, .int .u64 0, .int .u64 0, .int .u64 0, .int .u64 0, .int .u64 0, .int .u64 0, .int .u64 0, .int .u64 0, .int .u64 0, .int .u64 0, .int .u64 0, .int .u64 0, .int .u64 0, .int .u64 0, .int .u64 0, .int .u64 0, .int .u64 0, .int .u64 0, .int .u64 0, .int .u64 0, .int .u64 0, .int .u64 0, .int .u64 0, .int .u64 0, .int .u64 0, .int .u64 0, .int .u64 0]] 8 rfl (World.shaped_of_RefB (by kernel_rfl) (by kernel_rfl)) (by kernel_rfl) (by kernel_rfl) (by kernel_rfl) (door_met os _)) ?_
  intro W base args ds gs before hval0 hW hcnd _ hL _
  have hval : ∀ (j : Nat) t v, Tryd.f4.params[j]? = some t → args[j]? = some v → Value.okWide Tryd.prog W .any base t v := hval0
  have hW' := hW
  obtain ⟨p, q, hA0, hV, rfl, hfz, hnd⟩ := hW
  have hA : DataW.TrodAll enc Tryd.prog W 0 (fun _ => true) true Tryd.f4.params.toList args.toList ds p := hA0
  rw [Tryd.params4] at hA hval
  obtain ⟨v0, vs0, d0, ds0, p0, q0, hargs, rfl, rfl, h0, r0⟩ := trodAll_cons hA
  obtain ⟨v1, vs1, d1, ds1, p1, q1, rfl, rfl, rfl, h1, r1⟩ := trodAll_cons r0
  obtain ⟨v2, vs2, d2, ds2, p2, q2, rfl, rfl, rfl, h2, r2⟩ := trodAll_cons r1
  obtain ⟨rfl, rfl, rfl⟩ := trodAll_nil r2
  obtain rfl : args = #[v0, v1, v2] := by cases args; simp_all
  obtain ⟨rfl, rfl⟩ := trodVars_none hV
  obtain ⟨f0a, g0a, f0b, g0b, f0c, g0c, rfl, wf0a, wg0a, wf0b, wg0b, wf0c, wg0c⟩ := open_fp6 (hval 0 28 v0 rfl rfl) h0
  have k0 := h0
  have lt0 : ∀ x ∈ p0, x.block < W.heap.size := by obtain ⟨m, hm⟩ := k0; exact DataW.trod_lt m _ _ _ hm
  obtain ⟨f1a, g1a, f1b, g1b, f1c, g1c, rfl, wf1a, wg1a, wf1b, wg1b, wf1c, wg1c⟩ := open_fp6 (hval 1 28 v1 rfl rfl) h1
  have k1 := h1
  have lt1 : ∀ x ∈ p1, x.block < W.heap.size := by obtain ⟨m, hm⟩ := k1; exact DataW.trod_lt m _ _ _ hm
  obtain ⟨f2a, g2a, f2b, g2b, f2c, g2c, rfl, wf2a, wg2a, wf2b, wg2b, wf2c, wg2c⟩ := open_fp6 (hval 2 28 v2 rfl rfl) h2
  have k2 := h2
  have lt2 : ∀ x ∈ p2, x.block < W.heap.size := by obtain ⟨m, hm⟩ := k2; exact DataW.trod_lt m _ _ _ hm
  clear hA0 hval0
  refine (walk f0a g0a f0b g0b f0c g0c f1a g1a f1b g1b f1c g1c f2a g2a f2b g2b f2c g2c W (of_laid hL) wf0a wg0a wf0b wg0b wf0c wg0c wf1a wg1a wf1b wg1b wf1c wg1c wf2a wg2a wf2b wg2b wf2c wg2c).mono fun e W' ⟨he, bel⟩ => ?_
  subst he
  exact ⟨_, rfl, _, _, _, [], _, [], hW', trodAll_mk1 (shut_bool Tryd.underlying4 _), (trodAll_cons_mk (Below.trod laidOut (by kernel_rfl) (of_decide_eq_true (by kernel_rfl)) k0 bel lt0) (trodAll_cons_mk (Below.trod laidOut (by kernel_rfl) (of_decide_eq_true (by kernel_rfl)) k1 bel lt1) (trodAll_cons_mk (Below.trod laidOut (by kernel_rfl) (of_decide_eq_true (by kernel_rfl)) k2 bel lt2) trodAll_mk0))), rfl, bel.frame _, fun h => by cases h⟩

theorem over : Rows.fp6FieldRow.holds Tryd.pinned (OpenSpec.ofChange Rows.fp6FieldSpec) :=
  OpenClaim.holds_of_wide 4 Tryd.f4 rfl rfl rfl rfl rfl rfl rfl ⟨rfl, rfl, rfl, rfl, rfl⟩ rfl rfl rfl rfl rfl (by kernel_rfl) Tryd.func4 (by kernel_rfl)
    (of_decide_eq_true (by kernel_rfl)) (by unfold Func.isWrapper; first | (rw [if_pos (by decide +kernel)]; kernel_rfl) | (rw [if_neg (by decide +kernel)]; exact ⟨rfl, rfl⟩))
    (fun os started H enc _ => lifted os started H enc)

/-- The statement. -/
theorem proved : Rows.Fp6FieldCardSaid :=
  Claim7.holds_tied_plain_at .later [] [.data] true (true, "3562ac7a5a70f80f0f4b47a1538295442a3ed83647936e4a13464654807e0084") false
    over (fun _ h => by cases h) (by kernel_rfl) (fun _ h => by cases h) fp6Field_row_tie rfl ⟨rfl, rfl⟩ (by kernel_rfl) rfl
    (fun f fn hf hfn => by
      obtain rfl : f = 4 := Option.some.inj ((show Tryd.prog.funcNamed Rows.fp6FieldRow.func = some 4 by kernel_rfl).symm.trans hf) |>.symm
      obtain rfl : fn = Tryd.f4 := (Option.some.inj (Tryd.func4.symm.trans hfn)).symm
      exact ⟨by kernel_rfl, fun j t ht => by
        rw [Tryd.params4] at ht
        have hm : t ∈ [28] := by simpa using Array.mem_of_getElem? ht
        have hall : ([28].all fun u => !Tryd.prog.wantsStandIn u) = true := by kernel_rfl
        exact (show Tryd.prog.wantsStandIn t = false by simpa using List.all_eq_true.1 hall t hm)⟩)
    (by kernel_rfl)
end Go.Proofs.YtmegifgpkdigmaaDoor.fpn.fp6Field

theorem Go.Proofs.YtmegifgpkdigmaaDoor.fp6Field_holds : Go.Proofs.YtmegifgpkdigmaaDoor.Rows.Fp6FieldCardSaid := Go.Proofs.YtmegifgpkdigmaaDoor.fpn.fp6Field.proved
#print axioms Go.Proofs.YtmegifgpkdigmaaDoor.fp6Field_holds
