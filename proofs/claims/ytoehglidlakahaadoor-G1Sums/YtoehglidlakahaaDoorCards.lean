/-
  DERIVED. GIVEN WITH THE SEED: THE CARDS: each row of YtoehglidlakahaaDoorRows.lean that lists a variable, with what it lists TIED to the program's text (the seventh form; the later family's looks); each row that meets fmt, with fmt's text TOLD by the authors' own Lean function (tested against real Go, not proved from fmt's source: count such statements apart). THE CARD IS WHAT COUNTS. Prove the row's statement (the work); the ties are given (YtoehglidlakahaaDoorTie.lean); close each card by the builder's one call (the guide's Derived/Test/ToyasCard.lean, 'card_holds'). Laid BY PROGRAM, IN A SANDBOX (cutbox-door.mjs). By AI agents, Wed Nov 11 2026. No macro, syntax, notation, axiom, sorry.
-/
import Derived.Test.YtoehglidlakahaaDoorRows
import GoSem.ClaimSeven
namespace Go.Proofs.YtoehglidlakahaaDoor
namespace Rows

/-- THE TIED CARD OF 'intagliolaw8.G1All'. -/
def g1AllCard : Claim7 := { stood := { row := g1AllRow, standIns := [], harness := (true, "ac9494037c44071026e44ba1851bdb27178a53151fd5f443d0fa989361796602"), looks := false }, kinds := [], alts := [], laidByText := true, laidKinds := [.data], laidTests := true, laidLooks := .later }
def G1AllCardSaid : Prop := Claim7.holds Tryd.pinned (.plain (OpenSpec.ofChange g1AllSpec)) g1AllCard

/-- THE TIED CARD OF 'intagliolaw8.G1On'. -/
def g1OnCard : Claim7 := { stood := { row := g1OnRow, standIns := [], harness := (true, "ac9494037c44071026e44ba1851bdb27178a53151fd5f443d0fa989361796602"), looks := false }, kinds := [], alts := [], laidByText := true, laidKinds := [.data], laidTests := true, laidLooks := .later }
def G1OnCardSaid : Prop := Claim7.holds Tryd.pinned (.plain (OpenSpec.ofChange g1OnSpec)) g1OnCard

/-- THE TIED CARD OF 'intagliolaw8.G1Sums'. -/
def g1SumsCard : Claim7 := { stood := { row := g1SumsRow, standIns := [], harness := (true, "ac9494037c44071026e44ba1851bdb27178a53151fd5f443d0fa989361796602"), looks := false }, kinds := [], alts := [], laidByText := true, laidKinds := [.data], laidTests := true, laidLooks := .later }
def G1SumsCardSaid : Prop := Claim7.holds Tryd.pinned (.plain (OpenSpec.ofChange g1SumsSpec)) g1SumsCard

/-- THE TIED CARD OF 'intagliolaw8.G1Group'. -/
def g1GroupCard : Claim7 := { stood := { row := g1GroupRow, standIns := [], harness := (true, "ac9494037c44071026e44ba1851bdb27178a53151fd5f443d0fa989361796602"), looks := false }, kinds := [], alts := [], laidByText := true, laidKinds := [.data], laidTests := true, laidLooks := .later }
def G1GroupCardSaid : Prop := Claim7.holds Tryd.pinned (.plain (OpenSpec.ofChange g1GroupSpec)) g1GroupCard

/-- THE TIED CARD OF 'intagliolaw8.G1Out'. -/
def g1OutCard : Claim7 := { stood := { row := g1OutRow, standIns := [], harness := (true, "ac9494037c44071026e44ba1851bdb27178a53151fd5f443d0fa989361796602"), looks := false }, kinds := [], alts := [], laidByText := true, laidKinds := [.data], laidTests := true, laidLooks := .later }
def G1OutCardSaid : Prop := Claim7.holds Tryd.pinned (.plain (OpenSpec.ofChange g1OutSpec)) g1OutCard

/-- THE TIED CARD OF 'intagliolaw8.G1Small'. -/
def g1SmallCard : Claim7 := { stood := { row := g1SmallRow, standIns := [], harness := (true, "ac9494037c44071026e44ba1851bdb27178a53151fd5f443d0fa989361796602"), looks := false }, kinds := [], alts := [], laidByText := true, laidKinds := [.data], laidTests := true, laidLooks := .later }
def G1SmallCardSaid : Prop := Claim7.holds Tryd.pinned (.plain (OpenSpec.ofChange g1SmallSpec)) g1SmallCard

/-- THE SECOND FORM's CARD OF 'intagliolaw8.G1All'. -/
def g1AllUptoCard : Claim7 := { stood := { row := g1AllUptoRow, standIns := [], harness := (true, "ac9494037c44071026e44ba1851bdb27178a53151fd5f443d0fa989361796602"), looks := false }, kinds := [], alts := [], laidByText := true, laidKinds := [.data], laidTests := true, laidLooks := .later }
def G1AllUptoCardSaid : Prop := Claim7.holds Tryd.pinned (.plain (OpenSpec.upto g1AllSpec)) g1AllUptoCard

/-- THE SECOND FORM's CARD OF 'intagliolaw8.G1On'. -/
def g1OnUptoCard : Claim7 := { stood := { row := g1OnUptoRow, standIns := [], harness := (true, "ac9494037c44071026e44ba1851bdb27178a53151fd5f443d0fa989361796602"), looks := false }, kinds := [], alts := [], laidByText := true, laidKinds := [.data], laidTests := true, laidLooks := .later }
def G1OnUptoCardSaid : Prop := Claim7.holds Tryd.pinned (.plain (OpenSpec.upto g1OnSpec)) g1OnUptoCard

/-- THE SECOND FORM's CARD OF 'intagliolaw8.G1Sums'. -/
def g1SumsUptoCard : Claim7 := { stood := { row := g1SumsUptoRow, standIns := [], harness := (true, "ac9494037c44071026e44ba1851bdb27178a53151fd5f443d0fa989361796602"), looks := false }, kinds := [], alts := [], laidByText := true, laidKinds := [.data], laidTests := true, laidLooks := .later }
def G1SumsUptoCardSaid : Prop := Claim7.holds Tryd.pinned (.plain (OpenSpec.upto g1SumsSpec)) g1SumsUptoCard

/-- THE SECOND FORM's CARD OF 'intagliolaw8.G1Group'. -/
def g1GroupUptoCard : Claim7 := { stood := { row := g1GroupUptoRow, standIns := [], harness := (true, "ac9494037c44071026e44ba1851bdb27178a53151fd5f443d0fa989361796602"), looks := false }, kinds := [], alts := [], laidByText := true, laidKinds := [.data], laidTests := true, laidLooks := .later }
def G1GroupUptoCardSaid : Prop := Claim7.holds Tryd.pinned (.plain (OpenSpec.upto g1GroupSpec)) g1GroupUptoCard

/-- THE SECOND FORM's CARD OF 'intagliolaw8.G1Out'. -/
def g1OutUptoCard : Claim7 := { stood := { row := g1OutUptoRow, standIns := [], harness := (true, "ac9494037c44071026e44ba1851bdb27178a53151fd5f443d0fa989361796602"), looks := false }, kinds := [], alts := [], laidByText := true, laidKinds := [.data], laidTests := true, laidLooks := .later }
def G1OutUptoCardSaid : Prop := Claim7.holds Tryd.pinned (.plain (OpenSpec.upto g1OutSpec)) g1OutUptoCard

/-- THE SECOND FORM's CARD OF 'intagliolaw8.G1Small'. -/
def g1SmallUptoCard : Claim7 := { stood := { row := g1SmallUptoRow, standIns := [], harness := (true, "ac9494037c44071026e44ba1851bdb27178a53151fd5f443d0fa989361796602"), looks := false }, kinds := [], alts := [], laidByText := true, laidKinds := [.data], laidTests := true, laidLooks := .later }
def G1SmallUptoCardSaid : Prop := Claim7.holds Tryd.pinned (.plain (OpenSpec.upto g1SmallSpec)) g1SmallUptoCard
end Rows
end Go.Proofs.YtoehglidlakahaaDoor
