/-
  DERIVED. GIVEN WITH THE SEED: THE CARDS: each row of YtbnnackoakhmdaaDoorRows.lean that lists a variable, with what it lists TIED to the program's text (the seventh form; the later family's looks); each row that meets fmt, with fmt's text TOLD by the authors' own Lean function (tested against real Go, not proved from fmt's source: count such statements apart). THE CARD IS WHAT COUNTS. Prove the row's statement (the work); the ties are given (YtbnnackoakhmdaaDoorTie.lean); close each card by the builder's one call (the guide's Derived/Test/ToyasCard.lean, 'card_holds'). Laid BY PROGRAM, IN A SANDBOX (cutbox-door.mjs). By AI agents, Wed Nov 11 2026. No macro, syntax, notation, axiom, sorry.
-/
import Derived.Test.YtbnnackoakhmdaaDoorRows
import GoSem.ClaimSeven
namespace Go.Proofs.YtbnnackoakhmdaaDoor
namespace Rows

/-- THE TIED CARD OF 'acmelaw11.LotWalks'. -/
def lotWalksCard : Claim7 := { stood := { row := lotWalksRow, standIns := [], harness := (true, "47dced046262eae215c9f68c1b852eb7ec86e117a87f24054dab096dfd65c1e2"), looks := false }, kinds := [], alts := [], laidByText := true, laidKinds := [.data, .data], laidTests := true, laidLooks := .later }
def LotWalksCardSaid : Prop := Claim7.holds Tryd.pinned (.plain (OpenSpec.ofChange lotWalksSpec)) lotWalksCard

/-- THE SECOND FORM's CARD OF 'acmelaw11.LotWalks'. -/
def lotWalksUptoCard : Claim7 := { stood := { row := lotWalksUptoRow, standIns := [], harness := (true, "47dced046262eae215c9f68c1b852eb7ec86e117a87f24054dab096dfd65c1e2"), looks := false }, kinds := [], alts := [], laidByText := true, laidKinds := [.data, .data], laidTests := true, laidLooks := .later }
def LotWalksUptoCardSaid : Prop := Claim7.holds Tryd.pinned (.plain (OpenSpec.upto lotWalksSpec)) lotWalksUptoCard
end Rows
end Go.Proofs.YtbnnackoakhmdaaDoor
