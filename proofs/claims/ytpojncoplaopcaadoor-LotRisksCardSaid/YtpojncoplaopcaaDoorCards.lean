/-
  DERIVED. GIVEN WITH THE SEED: THE CARDS: each row of YtpojncoplaopcaaDoorRows.lean that lists a variable, with what it lists TIED to the program's text (the seventh form; the later family's looks); each row that meets fmt, with fmt's text TOLD by the authors' own Lean function (tested against real Go, not proved from fmt's source: count such statements apart). THE CARD IS WHAT COUNTS. Prove the row's statement (the work); the ties are given (YtpojncoplaopcaaDoorTie.lean); close each card by the builder's one call (the guide's Derived/Test/ToyasCard.lean, 'card_holds'). Laid BY PROGRAM, IN A SANDBOX (cutbox-door.mjs). By AI agents, Wed Nov 11 2026. No macro, syntax, notation, axiom, sorry.
-/
import Derived.Test.YtpojncoplaopcaaDoorRows
import GoSem.ClaimSeven
namespace Go.Proofs.YtpojncoplaopcaaDoor
namespace Rows

/-- THE TIED CARD OF 'acmelaw11.LotChances'. -/
def lotChancesCard : Claim7 := { stood := { row := lotChancesRow, standIns := [], harness := (true, "52739f66c1efddf15e985fdf60a27055599c35910d891fd34423f67e856a23b7"), looks := false }, kinds := [], alts := [], laidByText := true, laidKinds := [.data, .data], laidTests := true, laidLooks := .later }
def LotChancesCardSaid : Prop := Claim7.holds Tryd.pinned (.plain (OpenSpec.ofChange lotChancesSpec)) lotChancesCard

/-- THE TIED CARD OF 'acmelaw11.LotOdds'. -/
def lotOddsCard : Claim7 := { stood := { row := lotOddsRow, standIns := [], harness := (true, "52739f66c1efddf15e985fdf60a27055599c35910d891fd34423f67e856a23b7"), looks := false }, kinds := [], alts := [], laidByText := true, laidKinds := [.data, .data], laidTests := true, laidLooks := .later }
def LotOddsCardSaid : Prop := Claim7.holds Tryd.pinned (.plain (OpenSpec.ofChange lotOddsSpec)) lotOddsCard

/-- THE TIED CARD OF 'acmelaw11.LotRisks'. -/
def lotRisksCard : Claim7 := { stood := { row := lotRisksRow, standIns := [], harness := (true, "52739f66c1efddf15e985fdf60a27055599c35910d891fd34423f67e856a23b7"), looks := false }, kinds := [], alts := [], laidByText := true, laidKinds := [.data, .data], laidTests := true, laidLooks := .later }
def LotRisksCardSaid : Prop := Claim7.holds Tryd.pinned (.plain (OpenSpec.ofChange lotRisksSpec)) lotRisksCard

/-- THE SECOND FORM's CARD OF 'acmelaw11.LotChances'. -/
def lotChancesUptoCard : Claim7 := { stood := { row := lotChancesUptoRow, standIns := [], harness := (true, "52739f66c1efddf15e985fdf60a27055599c35910d891fd34423f67e856a23b7"), looks := false }, kinds := [], alts := [], laidByText := true, laidKinds := [.data, .data], laidTests := true, laidLooks := .later }
def LotChancesUptoCardSaid : Prop := Claim7.holds Tryd.pinned (.plain (OpenSpec.upto lotChancesSpec)) lotChancesUptoCard

/-- THE SECOND FORM's CARD OF 'acmelaw11.LotOdds'. -/
def lotOddsUptoCard : Claim7 := { stood := { row := lotOddsUptoRow, standIns := [], harness := (true, "52739f66c1efddf15e985fdf60a27055599c35910d891fd34423f67e856a23b7"), looks := false }, kinds := [], alts := [], laidByText := true, laidKinds := [.data, .data], laidTests := true, laidLooks := .later }
def LotOddsUptoCardSaid : Prop := Claim7.holds Tryd.pinned (.plain (OpenSpec.upto lotOddsSpec)) lotOddsUptoCard

/-- THE SECOND FORM's CARD OF 'acmelaw11.LotRisks'. -/
def lotRisksUptoCard : Claim7 := { stood := { row := lotRisksUptoRow, standIns := [], harness := (true, "52739f66c1efddf15e985fdf60a27055599c35910d891fd34423f67e856a23b7"), looks := false }, kinds := [], alts := [], laidByText := true, laidKinds := [.data, .data], laidTests := true, laidLooks := .later }
def LotRisksUptoCardSaid : Prop := Claim7.holds Tryd.pinned (.plain (OpenSpec.upto lotRisksSpec)) lotRisksUptoCard
end Rows
end Go.Proofs.YtpojncoplaopcaaDoor
