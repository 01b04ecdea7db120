/-
  DERIVED. GIVEN WITH THE SEED: THE CARDS: each row of YtmibajbpimcfnaaGreatDoorRows.lean that lists a variable, with what it lists TIED to the program's text (the seventh form; the later family's looks); each row that meets fmt, with fmt's text TOLD by the authors' own Lean function (tested against real Go, not proved from fmt's source: count such statements apart). THE CARD IS WHAT COUNTS. Prove the row's statement (the work); the ties are given (YtmibajbpimcfnaaGreatDoorTie.lean); close each card by the builder's one call (the guide's Derived/Test/ToyasCard.lean, 'card_holds'). Laid BY PROGRAM, IN A SANDBOX (cutbox-door.mjs). By AI agents, Wed Nov 11 2026. No macro, syntax, notation, axiom, sorry.
-/
import Derived.Test.YtmibajbpimcfnaaGreatDoorRows
import GoSem.ClaimSeven
namespace Go.Proofs.YtmibajbpimcfnaaGreatDoor
namespace Rows

/-- THE TIED CARD OF 'intagliolaw10.PointWrites'. -/
def pointWritesCard : Claim7 := { stood := { row := pointWritesRow, standIns := [], harness := (true, "f0cf6f15c89a895cc6c45734f39c64f1bc8371a869a7d09f204280e36100e1ea"), looks := false }, kinds := [], alts := [], laidByText := true, laidKinds := [.data, .data, .data], laidTests := true, laidLooks := .later }
def PointWritesCardSaid : Prop := Claim7.holds Tryz.pinned (.plain (OpenSpec.ofChange pointWritesSpec)) pointWritesCard

/-- THE TIED CARD OF 'intagliolaw10.PointReads1'. -/
def pointReads1Card : Claim7 := { stood := { row := pointReads1Row, standIns := [], harness := (true, "f0cf6f15c89a895cc6c45734f39c64f1bc8371a869a7d09f204280e36100e1ea"), looks := false }, kinds := [], alts := [], laidByText := true, laidKinds := [.data, .data, .data], laidTests := true, laidLooks := .later }
def PointReads1CardSaid : Prop := Claim7.holds Tryz.pinned (.plain (OpenSpec.ofChange pointReads1Spec)) pointReads1Card

/-- THE TIED CARD OF 'intagliolaw10.PointReads2'. -/
def pointReads2Card : Claim7 := { stood := { row := pointReads2Row, standIns := [], harness := (true, "f0cf6f15c89a895cc6c45734f39c64f1bc8371a869a7d09f204280e36100e1ea"), looks := false }, kinds := [], alts := [], laidByText := true, laidKinds := [.data, .data, .data], laidTests := true, laidLooks := .later }
def PointReads2CardSaid : Prop := Claim7.holds Tryz.pinned (.plain (OpenSpec.ofChange pointReads2Spec)) pointReads2Card

/-- THE TIED CARD OF 'intagliolaw10.PointBack'. -/
def pointBackCard : Claim7 := { stood := { row := pointBackRow, standIns := [], harness := (true, "f0cf6f15c89a895cc6c45734f39c64f1bc8371a869a7d09f204280e36100e1ea"), looks := false }, kinds := [], alts := [], laidByText := true, laidKinds := [.data, .data, .data], laidTests := true, laidLooks := .later }
def PointBackCardSaid : Prop := Claim7.holds Tryz.pinned (.plain (OpenSpec.ofChange pointBackSpec)) pointBackCard

/-- THE TIED CARD OF 'intagliolaw10.PointTurned'. -/
def pointTurnedCard : Claim7 := { stood := { row := pointTurnedRow, standIns := [], harness := (true, "f0cf6f15c89a895cc6c45734f39c64f1bc8371a869a7d09f204280e36100e1ea"), looks := false }, kinds := [], alts := [], laidByText := true, laidKinds := [.data, .data, .data], laidTests := true, laidLooks := .later }
def PointTurnedCardSaid : Prop := Claim7.holds Tryz.pinned (.plain (OpenSpec.ofChange pointTurnedSpec)) pointTurnedCard

/-- THE TIED CARD OF 'intagliolaw10.PointHeads'. -/
def pointHeadsCard : Claim7 := { stood := { row := pointHeadsRow, standIns := [], harness := (true, "f0cf6f15c89a895cc6c45734f39c64f1bc8371a869a7d09f204280e36100e1ea"), looks := false }, kinds := [], alts := [], laidByText := true, laidKinds := [.data, .data, .data], laidTests := true, laidLooks := .later }
def PointHeadsCardSaid : Prop := Claim7.holds Tryz.pinned (.plain (OpenSpec.ofChange pointHeadsSpec)) pointHeadsCard

/-- THE SECOND FORM's CARD OF 'intagliolaw10.PointWrites'. -/
def pointWritesUptoCard : Claim7 := { stood := { row := pointWritesUptoRow, standIns := [], harness := (true, "f0cf6f15c89a895cc6c45734f39c64f1bc8371a869a7d09f204280e36100e1ea"), looks := false }, kinds := [], alts := [], laidByText := true, laidKinds := [.data, .data, .data], laidTests := true, laidLooks := .later }
def PointWritesUptoCardSaid : Prop := Claim7.holds Tryz.pinned (.plain (OpenSpec.upto pointWritesSpec)) pointWritesUptoCard

/-- THE SECOND FORM's CARD OF 'intagliolaw10.PointReads1'. -/
def pointReads1UptoCard : Claim7 := { stood := { row := pointReads1UptoRow, standIns := [], harness := (true, "f0cf6f15c89a895cc6c45734f39c64f1bc8371a869a7d09f204280e36100e1ea"), looks := false }, kinds := [], alts := [], laidByText := true, laidKinds := [.data, .data, .data], laidTests := true, laidLooks := .later }
def PointReads1UptoCardSaid : Prop := Claim7.holds Tryz.pinned (.plain (OpenSpec.upto pointReads1Spec)) pointReads1UptoCard

/-- THE SECOND FORM's CARD OF 'intagliolaw10.PointReads2'. -/
def pointReads2UptoCard : Claim7 := { stood := { row := pointReads2UptoRow, standIns := [], harness := (true, "f0cf6f15c89a895cc6c45734f39c64f1bc8371a869a7d09f204280e36100e1ea"), looks := false }, kinds := [], alts := [], laidByText := true, laidKinds := [.data, .data, .data], laidTests := true, laidLooks := .later }
def PointReads2UptoCardSaid : Prop := Claim7.holds Tryz.pinned (.plain (OpenSpec.upto pointReads2Spec)) pointReads2UptoCard

/-- THE SECOND FORM's CARD OF 'intagliolaw10.PointBack'. -/
def pointBackUptoCard : Claim7 := { stood := { row := pointBackUptoRow, standIns := [], harness := (true, "f0cf6f15c89a895cc6c45734f39c64f1bc8371a869a7d09f204280e36100e1ea"), looks := false }, kinds := [], alts := [], laidByText := true, laidKinds := [.data, .data, .data], laidTests := true, laidLooks := .later }
def PointBackUptoCardSaid : Prop := Claim7.holds Tryz.pinned (.plain (OpenSpec.upto pointBackSpec)) pointBackUptoCard

/-- THE SECOND FORM's CARD OF 'intagliolaw10.PointTurned'. -/
def pointTurnedUptoCard : Claim7 := { stood := { row := pointTurnedUptoRow, standIns := [], harness := (true, "f0cf6f15c89a895cc6c45734f39c64f1bc8371a869a7d09f204280e36100e1ea"), looks := false }, kinds := [], alts := [], laidByText := true, laidKinds := [.data, .data, .data], laidTests := true, laidLooks := .later }
def PointTurnedUptoCardSaid : Prop := Claim7.holds Tryz.pinned (.plain (OpenSpec.upto pointTurnedSpec)) pointTurnedUptoCard

/-- THE SECOND FORM's CARD OF 'intagliolaw10.PointHeads'. -/
def pointHeadsUptoCard : Claim7 := { stood := { row := pointHeadsUptoRow, standIns := [], harness := (true, "f0cf6f15c89a895cc6c45734f39c64f1bc8371a869a7d09f204280e36100e1ea"), looks := false }, kinds := [], alts := [], laidByText := true, laidKinds := [.data, .data, .data], laidTests := true, laidLooks := .later }
def PointHeadsUptoCardSaid : Prop := Claim7.holds Tryz.pinned (.plain (OpenSpec.upto pointHeadsSpec)) pointHeadsUptoCard
end Rows
end Go.Proofs.YtmibajbpimcfnaaGreatDoor
