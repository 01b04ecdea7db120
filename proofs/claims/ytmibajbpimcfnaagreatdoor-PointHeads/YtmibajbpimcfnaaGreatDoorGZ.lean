/- PT2 TKD2. -/
import Derived.Test.YtmibajbpimcfnaaGreatDoorGX
import Derived.Test.YtmibajbpimcfnaaGreatDoorGR
import Derived.Test.YtmibajbpimcfnaaGreatDoorGG
import Derived.Test.YtmibajbpimcfnaaGreatDoorGQ
import Derived.Test.YtmibajbpimcfnaaGreatDoorGE
/- Points of G2 as bytes: what the reference writes. -/
namespace Go.Proofs.YtmibajbpimcfnaaGreatDoor.fpn.T2
open Go.RowKit Pl EC
set_option linter.unusedVariables false
set_option linter.unusedSimpArgs false
set_option maxRecDepth 4000

def ptx2 : Pt F2 → Nat → Int
  | .inf => fun j => bif Nat.beq j 0 then 192 else 0
  | .aff x y => su (cat (pb x.c1) 48 (pb x.c0)) 0 (pb x.c1 0 + (bif F2.great y then 160 else 128))
end Go.Proofs.YtmibajbpimcfnaaGreatDoor.fpn.T2

/- What Take2 answers. -/
namespace Go.Proofs.YtmibajbpimcfnaaGreatDoor.fpn.T2
open Go.RowKit Pl EC
set_option linter.unusedVariables false
set_option linter.unusedSimpArgs false
set_option maxRecDepth 4000

def tkF (e : Int) : Value := .tuple #[GV ⟨0, 0, false⟩, .int .i64 e]
noncomputable def tk2 (a : F2) (gr : Bool) : Value :=
  bif F2.is2 (a * a * a + b2) then
    bif decide (F2.sq2 (a * a * a + b2) = 0) && gr then tkF 3 else
    bif gr then (bif decide (mul F2.inv ordR (.aff a (-F2.sq2 (a * a * a + b2))) = .inf) then .tuple #[GV ⟨a, -F2.sq2 (a * a * a + b2), false⟩, .int .i64 0] else tkF 6)
    else (bif decide (mul F2.inv ordR (.aff a (F2.sq2 (a * a * a + b2))) = .inf) then .tuple #[GV ⟨a, F2.sq2 (a * a * a + b2), false⟩, .int .i64 0] else tkF 6)
  else tkF 5
noncomputable def tkB (g : Nat → Int) (n : Nat) : Value :=
  if n < 96 then tkF 2 else if 96 < n then tkF 8 else if g 0 / 32 < 4 then tkF 3
  else if 6 ≤ g 0 / 32 then (bif hdz g 96 then .tuple #[GV ⟨0, 0, true⟩, .int .i64 0] else tkF 3)
  else if bv (fun j => (su g 0 (g 0 % 32)) (0 + j)) 48 < RI then (if bv (fun j => (su g 0 (g 0 % 32)) (48 + j)) 48 < RI then tk2 ⟨ofB (fun j => (su g 0 (g 0 % 32)) (48 + j)), ofB (fun j => (su g 0 (g 0 % 32)) (0 + j))⟩ (decide (g 0 / 32 = 5)) else tkF 4) else tkF 4
end Go.Proofs.YtmibajbpimcfnaaGreatDoor.fpn.T2
