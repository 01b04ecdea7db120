/- PL1. -/
import Derived.Test.YtmibajbpimcfnaaGreatDoorPA
import Derived.Test.YtmibajbpimcfnaaGreatDoorGY
import Derived.Test.YtmibajbpimcfnaaGreatDoorPE
import Derived.Test.YtmibajbpimcfnaaGreatDoorGO
/- PointReads1 and PointReads2 walked. -/
namespace Go.Proofs.YtmibajbpimcfnaaGreatDoor.fpn
open Go.RowKit Pl EC
set_option linter.unusedVariables false
set_option linter.unusedSimpArgs false
set_option maxRecDepth 4000

def IsT1 (v : Value) : Prop := ∃ (P : G1p) (e : Int), v = .tuple #[GV P, .int .i64 e]
theorem IsT1.bif {b : Bool} {u v : Value} (hu : IsT1 u) (hv : IsT1 v) : IsT1 (bif b then u else v) := by cases b; exact hv; exact hu
theorem tk_some1 (g : Nat → Int) (n : Nat) : IsT1 (tkA g n) := by
  have hE : ∀ e, IsT1 (tkE e) := fun e => ⟨_, _, rfl⟩
  have h1 : ∀ a gr, IsT1 (tk1 a gr) := fun a gr => by
    unfold tk1
    exact IsT1.bif (IsT1.bif (hE _) (IsT1.bif (IsT1.bif ⟨_, _, rfl⟩ (hE _)) (IsT1.bif ⟨_, _, rfl⟩ (hE _)))) (hE _)
  unfold tkA
  split; exact hE _
  split; exact hE _
  split; exact hE _
  split; exact IsT1.bif ⟨_, _, rfl⟩ (hE _)
  split; exact h1 _ _
  exact hE _
def IsT2 (v : Value) : Prop := ∃ (P : T2.G2p) (e : Int), v = .tuple #[T2.GV P, .int .i64 e]
theorem IsT2.bif {b : Bool} {u v : Value} (hu : IsT2 u) (hv : IsT2 v) : IsT2 (bif b then u else v) := by cases b; exact hv; exact hu
theorem tk_some2 (g : Nat → Int) (n : Nat) : IsT2 (T2.tkB g n) := by
  have hE : ∀ e, IsT2 (T2.tkF e) := fun e => ⟨_, _, rfl⟩
  have h1 : ∀ a gr, IsT2 (T2.tk2 a gr) := fun a gr => by
    unfold T2.tk2
    exact IsT2.bif (IsT2.bif (hE _) (IsT2.bif (IsT2.bif ⟨_, _, rfl⟩ (hE _)) (IsT2.bif ⟨_, _, rfl⟩ (hE _)))) (hE _)
  unfold T2.tkB
  split; exact hE _
  split; exact hE _
  split; exact hE _
  split; exact IsT2.bif ⟨_, _, rfl⟩ (hE _)
  split
  · split; exact h1 _ _; exact hE _
  · exact hE _
end Go.Proofs.YtmibajbpimcfnaaGreatDoor.fpn
