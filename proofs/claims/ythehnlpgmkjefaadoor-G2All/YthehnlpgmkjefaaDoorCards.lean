/-
  DERIVED. GIVEN WITH THE SEED: THE CARDS: each row of YthehnlpgmkjefaaDoorRows.lean that lists a variable, with what it lists TIED to the program's text (the seventh form; the later family's looks); each row that meets fmt, with fmt's text TOLD by the authors' own Lean function (tested against real Go, not proved from fmt's source: count such statements apart). THE CARD IS WHAT COUNTS. Prove the row's statement (the work); the ties are given (YthehnlpgmkjefaaDoorTie.lean); close each card by the builder's one call (the guide's Derived/Test/ToyasCard.lean, 'card_holds'). Laid BY PROGRAM, IN A SANDBOX (cutbox-door.mjs). By AI agents, Wed Nov 11 2026. No macro, syntax, notation, axiom, sorry.
-/
import Derived.Test.YthehnlpgmkjefaaDoorRows
import GoSem.ClaimSeven
namespace Go.Proofs.YthehnlpgmkjefaaDoor
namespace Rows

/-- THE TIED CARD OF 'intagliolaw9.G2All'. -/
def g2AllCard : Claim7 := { stood := { row := g2AllRow, standIns := [], harness := (true, "06645523faea22e4800d56c00d065a5aa9a994d4c5fac17825c61fed317ff8a4"), looks := false }, kinds := [], alts := [], laidByText := true, laidKinds := [.data], laidTests := true, laidLooks := .later }
def G2AllCardSaid : Prop := Claim7.holds Tryd.pinned (.plain (OpenSpec.ofChange g2AllSpec)) g2AllCard

/-- THE TIED CARD OF 'intagliolaw9.G2On'. -/
def g2OnCard : Claim7 := { stood := { row := g2OnRow, standIns := [], harness := (true, "06645523faea22e4800d56c00d065a5aa9a994d4c5fac17825c61fed317ff8a4"), looks := false }, kinds := [], alts := [], laidByText := true, laidKinds := [.data], laidTests := true, laidLooks := .later }
def G2OnCardSaid : Prop := Claim7.holds Tryd.pinned (.plain (OpenSpec.ofChange g2OnSpec)) g2OnCard

/-- THE TIED CARD OF 'intagliolaw9.G2Sums'. -/
def g2SumsCard : Claim7 := { stood := { row := g2SumsRow, standIns := [], harness := (true, "06645523faea22e4800d56c00d065a5aa9a994d4c5fac17825c61fed317ff8a4"), looks := false }, kinds := [], alts := [], laidByText := true, laidKinds := [.data], laidTests := true, laidLooks := .later }
def G2SumsCardSaid : Prop := Claim7.holds Tryd.pinned (.plain (OpenSpec.ofChange g2SumsSpec)) g2SumsCard

/-- THE TIED CARD OF 'intagliolaw9.G2Group'. -/
def g2GroupCard : Claim7 := { stood := { row := g2GroupRow, standIns := [], harness := (true, "06645523faea22e4800d56c00d065a5aa9a994d4c5fac17825c61fed317ff8a4"), looks := false }, kinds := [], alts := [], laidByText := true, laidKinds := [.data], laidTests := true, laidLooks := .later }
def G2GroupCardSaid : Prop := Claim7.holds Tryd.pinned (.plain (OpenSpec.ofChange g2GroupSpec)) g2GroupCard

/-- THE TIED CARD OF 'intagliolaw9.G2Out'. -/
def g2OutCard : Claim7 := { stood := { row := g2OutRow, standIns := [], harness := (true, "06645523faea22e4800d56c00d065a5aa9a994d4c5fac17825c61fed317ff8a4"), looks := false }, kinds := [], alts := [], laidByText := true, laidKinds := [.data], laidTests := true, laidLooks := .later }
def G2OutCardSaid : Prop := Claim7.holds Tryd.pinned (.plain (OpenSpec.ofChange g2OutSpec)) g2OutCard

/-- THE TIED CARD OF 'intagliolaw9.G2Small'. -/
def g2SmallCard : Claim7 := { stood := { row := g2SmallRow, standIns := [], harness := (true, "06645523faea22e4800d56c00d065a5aa9a994d4c5fac17825c61fed317ff8a4"), looks := false }, kinds := [], alts := [], laidByText := true, laidKinds := [.data], laidTests := true, laidLooks := .later }
def G2SmallCardSaid : Prop := Claim7.holds Tryd.pinned (.plain (OpenSpec.ofChange g2SmallSpec)) g2SmallCard

/-- THE SECOND FORM's CARD OF 'intagliolaw9.G2All'. -/
def g2AllUptoCard : Claim7 := { stood := { row := g2AllUptoRow, standIns := [], harness := (true, "06645523faea22e4800d56c00d065a5aa9a994d4c5fac17825c61fed317ff8a4"), looks := false }, kinds := [], alts := [], laidByText := true, laidKinds := [.data], laidTests := true, laidLooks := .later }
def G2AllUptoCardSaid : Prop := Claim7.holds Tryd.pinned (.plain (OpenSpec.upto g2AllSpec)) g2AllUptoCard

/-- THE SECOND FORM's CARD OF 'intagliolaw9.G2On'. -/
def g2OnUptoCard : Claim7 := { stood := { row := g2OnUptoRow, standIns := [], harness := (true, "06645523faea22e4800d56c00d065a5aa9a994d4c5fac17825c61fed317ff8a4"), looks := false }, kinds := [], alts := [], laidByText := true, laidKinds := [.data], laidTests := true, laidLooks := .later }
def G2OnUptoCardSaid : Prop := Claim7.holds Tryd.pinned (.plain (OpenSpec.upto g2OnSpec)) g2OnUptoCard

/-- THE SECOND FORM's CARD OF 'intagliolaw9.G2Sums'. -/
def g2SumsUptoCard : Claim7 := { stood := { row := g2SumsUptoRow, standIns := [], harness := (true, "06645523faea22e4800d56c00d065a5aa9a994d4c5fac17825c61fed317ff8a4"), looks := false }, kinds := [], alts := [], laidByText := true, laidKinds := [.data], laidTests := true, laidLooks := .later }
def G2SumsUptoCardSaid : Prop := Claim7.holds Tryd.pinned (.plain (OpenSpec.upto g2SumsSpec)) g2SumsUptoCard

/-- THE SECOND FORM's CARD OF 'intagliolaw9.G2Group'. -/
def g2GroupUptoCard : Claim7 := { stood := { row := g2GroupUptoRow, standIns := [], harness := (true, "06645523faea22e4800d56c00d065a5aa9a994d4c5fac17825c61fed317ff8a4"), looks := false }, kinds := [], alts := [], laidByText := true, laidKinds := [.data], laidTests := true, laidLooks := .later }
def G2GroupUptoCardSaid : Prop := Claim7.holds Tryd.pinned (.plain (OpenSpec.upto g2GroupSpec)) g2GroupUptoCard

/-- THE SECOND FORM's CARD OF 'intagliolaw9.G2Out'. -/
def g2OutUptoCard : Claim7 := { stood := { row := g2OutUptoRow, standIns := [], harness := (true, "06645523faea22e4800d56c00d065a5aa9a994d4c5fac17825c61fed317ff8a4"), looks := false }, kinds := [], alts := [], laidByText := true, laidKinds := [.data], laidTests := true, laidLooks := .later }
def G2OutUptoCardSaid : Prop := Claim7.holds Tryd.pinned (.plain (OpenSpec.upto g2OutSpec)) g2OutUptoCard

/-- THE SECOND FORM's CARD OF 'intagliolaw9.G2Small'. -/
def g2SmallUptoCard : Claim7 := { stood := { row := g2SmallUptoRow, standIns := [], harness := (true, "06645523faea22e4800d56c00d065a5aa9a994d4c5fac17825c61fed317ff8a4"), looks := false }, kinds := [], alts := [], laidByText := true, laidKinds := [.data], laidTests := true, laidLooks := .later }
def G2SmallUptoCardSaid : Prop := Claim7.holds Tryd.pinned (.plain (OpenSpec.upto g2SmallSpec)) g2SmallUptoCard
end Rows
end Go.Proofs.YthehnlpgmkjefaaDoor
