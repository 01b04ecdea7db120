/- LR. -/
import Derived.Test.YtmibajbpimcfnaaGreatDoorGH
import Derived.Test.YtmibajbpimcfnaaGreatDoorGO
import Derived.Deep.Slices
/- What scalars and slices of scalars that come in give the walks. -/
namespace Go.Proofs.YtmibajbpimcfnaaGreatDoor.fpn
open Go.ChangeShapes Go.WideShapes Go.ChangeAt Go.WideElems Go.RowKit Pl
set_option linter.unusedVariables false
set_option maxRecDepth 4000

theorem nat_u8 {a : Int} (h : (Lit.int .u8 a).wf = true) : ∃ n : Nat, a = (n : Int) ∧ n < 256 := by
  have b := bounds_u8 h
  exact ⟨a.toNat, by omega, by omega⟩

def AtR (w : World) (p : Option Addr) (l : List Nat) : Prop := 0 < l.length → ∃ b off, p = some ⟨b, off, none⟩ ∧ ∀ j n, l[j]? = some n → w.rangeAt b (off + j * 4) (RC n)
theorem AtR.up {w x : World} {p : Option Addr} {l : List Nat} (h : AtR w p l) (k : Below w.heap.size w x) : AtR x p l := fun h0 => by
  obtain ⟨b, off, e, hb⟩ := h h0
  exact ⟨b, off, e, fun j x hx => rangeR (hb j x hx) k⟩
end Go.Proofs.YtmibajbpimcfnaaGreatDoor.fpn
