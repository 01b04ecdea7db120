/-
  DERIVED. GIVEN WITH THE SEED: THE CARDS: each row of YtgdmjngajjoliaaDoorRows.lean that lists a variable, with what it lists TIED to the program's text (the seventh form; the later family's looks); each row that meets fmt, with fmt's text TOLD by the authors' own Lean function (tested against real Go, not proved from fmt's source: count such statements apart). THE CARD IS WHAT COUNTS. Prove the row's statement (the work); the ties are given (YtgdmjngajjoliaaDoorTie.lean); close each card by the builder's one call (the guide's Derived/Test/ToyasCard.lean, 'card_holds'). Laid BY PROGRAM, IN A SANDBOX (cutbox-door.mjs). By AI agents, Wed Nov 11 2026. No macro, syntax, notation, axiom, sorry.
-/
import Derived.Test.YtgdmjngajjoliaaDoorRows
import GoSem.ClaimSeven
namespace Go.Proofs.YtgdmjngajjoliaaDoor
namespace Rows

/-- THE TIED CARD OF 'intagliolaw3.FpAll'. -/
def fpAllCard : Claim7 := { stood := { row := fpAllRow, standIns := [], harness := (true, "26bee71f9fb15a620457788a10def17d2d272c55bb64d95e4c5430550caf1819"), looks := false }, kinds := [], alts := [], laidByText := true, laidKinds := [.data, .data], laidTests := true, laidLooks := .later }
def FpAllCardSaid : Prop := Claim7.holds Tryd.pinned (.plain (OpenSpec.ofChange fpAllSpec)) fpAllCard

/-- THE TIED CARD OF 'intagliolaw3.FpPowers'. -/
def fpPowersCard : Claim7 := { stood := { row := fpPowersRow, standIns := [], harness := (true, "26bee71f9fb15a620457788a10def17d2d272c55bb64d95e4c5430550caf1819"), looks := false }, kinds := [], alts := [], laidByText := true, laidKinds := [.data, .data], laidTests := true, laidLooks := .later }
def FpPowersCardSaid : Prop := Claim7.holds Tryd.pinned (.plain (OpenSpec.ofChange fpPowersSpec)) fpPowersCard

/-- THE TIED CARD OF 'intagliolaw3.FpBytes'. -/
def fpBytesCard : Claim7 := { stood := { row := fpBytesRow, standIns := [], harness := (true, "26bee71f9fb15a620457788a10def17d2d272c55bb64d95e4c5430550caf1819"), looks := false }, kinds := [], alts := [], laidByText := true, laidKinds := [.data, .data], laidTests := true, laidLooks := .later }
def FpBytesCardSaid : Prop := Claim7.holds Tryd.pinned (.plain (OpenSpec.ofChange fpBytesSpec)) fpBytesCard

/-- THE TIED CARD OF 'intagliolaw3.FpField'. -/
def fpFieldCard : Claim7 := { stood := { row := fpFieldRow, standIns := [], harness := (true, "26bee71f9fb15a620457788a10def17d2d272c55bb64d95e4c5430550caf1819"), looks := false }, kinds := [], alts := [], laidByText := true, laidKinds := [.data, .data], laidTests := true, laidLooks := .later }
def FpFieldCardSaid : Prop := Claim7.holds Tryd.pinned (.plain (OpenSpec.ofChange fpFieldSpec)) fpFieldCard

/-- THE TIED CARD OF 'intagliolaw3.FpSquares'. -/
def fpSquaresCard : Claim7 := { stood := { row := fpSquaresRow, standIns := [], harness := (true, "26bee71f9fb15a620457788a10def17d2d272c55bb64d95e4c5430550caf1819"), looks := false }, kinds := [], alts := [], laidByText := true, laidKinds := [.data, .data], laidTests := true, laidLooks := .later }
def FpSquaresCardSaid : Prop := Claim7.holds Tryd.pinned (.plain (OpenSpec.ofChange fpSquaresSpec)) fpSquaresCard

/-- THE TIED CARD OF 'intagliolaw3.FpExponents'. -/
def fpExponentsCard : Claim7 := { stood := { row := fpExponentsRow, standIns := [], harness := (true, "26bee71f9fb15a620457788a10def17d2d272c55bb64d95e4c5430550caf1819"), looks := false }, kinds := [], alts := [], laidByText := true, laidKinds := [.data, .data], laidTests := true, laidLooks := .later }
def FpExponentsCardSaid : Prop := Claim7.holds Tryd.pinned (.plain (OpenSpec.ofChange fpExponentsSpec)) fpExponentsCard

/-- THE SECOND FORM's CARD OF 'intagliolaw3.FpAll'. -/
def fpAllUptoCard : Claim7 := { stood := { row := fpAllUptoRow, standIns := [], harness := (true, "26bee71f9fb15a620457788a10def17d2d272c55bb64d95e4c5430550caf1819"), looks := false }, kinds := [], alts := [], laidByText := true, laidKinds := [.data, .data], laidTests := true, laidLooks := .later }
def FpAllUptoCardSaid : Prop := Claim7.holds Tryd.pinned (.plain (OpenSpec.upto fpAllSpec)) fpAllUptoCard

/-- THE SECOND FORM's CARD OF 'intagliolaw3.FpPowers'. -/
def fpPowersUptoCard : Claim7 := { stood := { row := fpPowersUptoRow, standIns := [], harness := (true, "26bee71f9fb15a620457788a10def17d2d272c55bb64d95e4c5430550caf1819"), looks := false }, kinds := [], alts := [], laidByText := true, laidKinds := [.data, .data], laidTests := true, laidLooks := .later }
def FpPowersUptoCardSaid : Prop := Claim7.holds Tryd.pinned (.plain (OpenSpec.upto fpPowersSpec)) fpPowersUptoCard

/-- THE SECOND FORM's CARD OF 'intagliolaw3.FpBytes'. -/
def fpBytesUptoCard : Claim7 := { stood := { row := fpBytesUptoRow, standIns := [], harness := (true, "26bee71f9fb15a620457788a10def17d2d272c55bb64d95e4c5430550caf1819"), looks := false }, kinds := [], alts := [], laidByText := true, laidKinds := [.data, .data], laidTests := true, laidLooks := .later }
def FpBytesUptoCardSaid : Prop := Claim7.holds Tryd.pinned (.plain (OpenSpec.upto fpBytesSpec)) fpBytesUptoCard

/-- THE SECOND FORM's CARD OF 'intagliolaw3.FpField'. -/
def fpFieldUptoCard : Claim7 := { stood := { row := fpFieldUptoRow, standIns := [], harness := (true, "26bee71f9fb15a620457788a10def17d2d272c55bb64d95e4c5430550caf1819"), looks := false }, kinds := [], alts := [], laidByText := true, laidKinds := [.data, .data], laidTests := true, laidLooks := .later }
def FpFieldUptoCardSaid : Prop := Claim7.holds Tryd.pinned (.plain (OpenSpec.upto fpFieldSpec)) fpFieldUptoCard

/-- THE SECOND FORM's CARD OF 'intagliolaw3.FpSquares'. -/
def fpSquaresUptoCard : Claim7 := { stood := { row := fpSquaresUptoRow, standIns := [], harness := (true, "26bee71f9fb15a620457788a10def17d2d272c55bb64d95e4c5430550caf1819"), looks := false }, kinds := [], alts := [], laidByText := true, laidKinds := [.data, .data], laidTests := true, laidLooks := .later }
def FpSquaresUptoCardSaid : Prop := Claim7.holds Tryd.pinned (.plain (OpenSpec.upto fpSquaresSpec)) fpSquaresUptoCard

/-- THE SECOND FORM's CARD OF 'intagliolaw3.FpExponents'. -/
def fpExponentsUptoCard : Claim7 := { stood := { row := fpExponentsUptoRow, standIns := [], harness := (true, "26bee71f9fb15a620457788a10def17d2d272c55bb64d95e4c5430550caf1819"), looks := false }, kinds := [], alts := [], laidByText := true, laidKinds := [.data, .data], laidTests := true, laidLooks := .later }
def FpExponentsUptoCardSaid : Prop := Claim7.holds Tryd.pinned (.plain (OpenSpec.upto fpExponentsSpec)) fpExponentsUptoCard
end Rows
end Go.Proofs.YtgdmjngajjoliaaDoor
