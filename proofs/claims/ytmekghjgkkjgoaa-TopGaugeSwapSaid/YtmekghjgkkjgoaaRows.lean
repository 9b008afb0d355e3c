/-
  No cell of these rows narrows 'for every input' (looked for: loops, veiled, ifaces, maps, wideKeys, modest, calm, conditions, laid).
  DERIVED. THE GIVEN ROWS OF THIS SEAT. 8 by the template 'for every input the law returns true; each argument reads behind the call as it read before'; 0 by the template 'total and deterministic' (their statements: YtmekghjgkkjgoaaTotals.lean).
  GIVEN WITH THE SEED: the statements are not yours to turn. If you find one false, say at which input.
  Laid BY PROGRAM, IN A SANDBOX (cutbox-rows.mjs): the forced cells as the released guide's own fill.sh prints them over the translation c5d17ae25d30ddc7… (all of the seat's roots in one cut). By AI agents, Wed Nov 11 2026. No macro, syntax, notation, axiom, sorry.
-/
import Derived.Test.YtmekghjgkkjgoaaChecked
import GoSem.Claim
import GoSem.ClaimJoined
import GoSem.ClaimMapViews
import Derived.JoinedTies
import Derived.KernelRfl
namespace Go.Proofs.Ytmekghjgkkjgoaa
/- THE CELL 'sum', in the pinned program and in every row, IS THE sha256 OF THE DUMP (.gsa) THAT YtmekghjgkkjgoaaProg.lean LOADS. Nothing in Lean hashes anything: it is a label: what it is worth is what the hold of that sum in a sandbox is worth. -/
noncomputable def Try.pinned : Pinned := { name := "ytmekghjgkkjgoaa", sum := "c5d17ae25d30ddc7b02a8e2838780cdc3758ddeef545db283da86474bfdb00c2", checked := Try.checked }
namespace Rows
def none {H : Type} : Left H := { results := [], args := [] }

/-- 'acmelaw08.SwapTurns': WHATEVER THE INPUT: true; the input reads as it did. -/
def swapTurnsSpec : ChangeSpec := { name := "swapTurns", fn := fun _ => fun
  | [d1, d2, d3] => { results := [.lit (.bool true)], args := [d1, d2, d3] }
  | _ => none }
def swapTurnsRow : OpenClaim := { program := "ytmekghjgkkjgoaa", sum := "c5d17ae25d30ddc7b02a8e2838780cdc3758ddeef545db283da86474bfdb00c2", func := "acme/acmelaw08.SwapTurns", spec := "swapTurns", unfollowed := true, recurses := true, apart := false }
def SwapTurnsSaid : Prop := swapTurnsRow.holds Try.pinned (OpenSpec.ofChange swapTurnsSpec)

/-- ITS FALSE NEIGHBOUR: 'it returns false'. Refute it at one input. -/
def swapTurnsWrong : ChangeSpec := { name := "swapTurns", fn := fun _ => fun
  | [d1, d2, d3] => { results := [.lit (.bool false)], args := [d1, d2, d3] }
  | _ => none }
def SwapTurnsWrongFalsely : Prop := swapTurnsRow.holds Try.pinned (OpenSpec.ofChange swapTurnsWrong)

/-- 'acmelaw08.SwapRanges': WHATEVER THE INPUT: true; the input reads as it did. -/
def swapRangesSpec : ChangeSpec := { name := "swapRanges", fn := fun _ => fun
  | [d1, d2, d3] => { results := [.lit (.bool true)], args := [d1, d2, d3] }
  | _ => none }
def swapRangesRow : OpenClaim := { program := "ytmekghjgkkjgoaa", sum := "c5d17ae25d30ddc7b02a8e2838780cdc3758ddeef545db283da86474bfdb00c2", func := "acme/acmelaw08.SwapRanges", spec := "swapRanges", unfollowed := true, recurses := true, apart := false }
def SwapRangesSaid : Prop := swapRangesRow.holds Try.pinned (OpenSpec.ofChange swapRangesSpec)

/-- ITS FALSE NEIGHBOUR: 'it returns false'. Refute it at one input. -/
def swapRangesWrong : ChangeSpec := { name := "swapRanges", fn := fun _ => fun
  | [d1, d2, d3] => { results := [.lit (.bool false)], args := [d1, d2, d3] }
  | _ => none }
def SwapRangesWrongFalsely : Prop := swapRangesRow.holds Try.pinned (OpenSpec.ofChange swapRangesWrong)

/-- 'acmelaw08.SwapToTheTurn': WHATEVER THE INPUT: true; the input reads as it did. -/
def swapToTheTurnSpec : ChangeSpec := { name := "swapToTheTurn", fn := fun _ => fun
  | [d1, d2, d3] => { results := [.lit (.bool true)], args := [d1, d2, d3] }
  | _ => none }
def swapToTheTurnRow : OpenClaim := { program := "ytmekghjgkkjgoaa", sum := "c5d17ae25d30ddc7b02a8e2838780cdc3758ddeef545db283da86474bfdb00c2", func := "acme/acmelaw08.SwapToTheTurn", spec := "swapToTheTurn", unfollowed := true, recurses := true, apart := false }
def SwapToTheTurnSaid : Prop := swapToTheTurnRow.holds Try.pinned (OpenSpec.ofChange swapToTheTurnSpec)

/-- ITS FALSE NEIGHBOUR: 'it returns false'. Refute it at one input. -/
def swapToTheTurnWrong : ChangeSpec := { name := "swapToTheTurn", fn := fun _ => fun
  | [d1, d2, d3] => { results := [.lit (.bool false)], args := [d1, d2, d3] }
  | _ => none }
def SwapToTheTurnWrongFalsely : Prop := swapToTheTurnRow.holds Try.pinned (OpenSpec.ofChange swapToTheTurnWrong)

/-- 'acmetop.TopTurnsFit': WHATEVER THE INPUT: true; the input reads as it did. -/
def topTurnsFitSpec : ChangeSpec := { name := "topTurnsFit", fn := fun _ => fun
  | [d1, d2, d3] => { results := [.lit (.bool true)], args := [d1, d2, d3] }
  | _ => none }
def topTurnsFitRow : OpenClaim := { program := "ytmekghjgkkjgoaa", sum := "c5d17ae25d30ddc7b02a8e2838780cdc3758ddeef545db283da86474bfdb00c2", func := "acme/acmetop.TopTurnsFit", spec := "topTurnsFit", unfollowed := true, recurses := true, apart := false }
def TopTurnsFitSaid : Prop := topTurnsFitRow.holds Try.pinned (OpenSpec.ofChange topTurnsFitSpec)

/-- ITS FALSE NEIGHBOUR: 'it returns false'. Refute it at one input. -/
def topTurnsFitWrong : ChangeSpec := { name := "topTurnsFit", fn := fun _ => fun
  | [d1, d2, d3] => { results := [.lit (.bool false)], args := [d1, d2, d3] }
  | _ => none }
def TopTurnsFitWrongFalsely : Prop := topTurnsFitRow.holds Try.pinned (OpenSpec.ofChange topTurnsFitWrong)

/-- 'acmetop.TopTurnsDeep': WHATEVER THE INPUT: true; the input reads as it did. -/
def topTurnsDeepSpec : ChangeSpec := { name := "topTurnsDeep", fn := fun _ => fun
  | [d1, d2, d3] => { results := [.lit (.bool true)], args := [d1, d2, d3] }
  | _ => none }
def topTurnsDeepRow : OpenClaim := { program := "ytmekghjgkkjgoaa", sum := "c5d17ae25d30ddc7b02a8e2838780cdc3758ddeef545db283da86474bfdb00c2", func := "acme/acmetop.TopTurnsDeep", spec := "topTurnsDeep", unfollowed := true, recurses := true, apart := false }
def TopTurnsDeepSaid : Prop := topTurnsDeepRow.holds Try.pinned (OpenSpec.ofChange topTurnsDeepSpec)

/-- ITS FALSE NEIGHBOUR: 'it returns false'. Refute it at one input. -/
def topTurnsDeepWrong : ChangeSpec := { name := "topTurnsDeep", fn := fun _ => fun
  | [d1, d2, d3] => { results := [.lit (.bool false)], args := [d1, d2, d3] }
  | _ => none }
def TopTurnsDeepWrongFalsely : Prop := topTurnsDeepRow.holds Try.pinned (OpenSpec.ofChange topTurnsDeepWrong)

/-- 'acmetop.TopRoomTurns': WHATEVER THE INPUT: true; the input reads as it did. -/
def topRoomTurnsSpec : ChangeSpec := { name := "topRoomTurns", fn := fun _ => fun
  | [d1, d2, d3] => { results := [.lit (.bool true)], args := [d1, d2, d3] }
  | _ => none }
def topRoomTurnsRow : OpenClaim := { program := "ytmekghjgkkjgoaa", sum := "c5d17ae25d30ddc7b02a8e2838780cdc3758ddeef545db283da86474bfdb00c2", func := "acme/acmetop.TopRoomTurns", spec := "topRoomTurns", unfollowed := true, recurses := true, apart := false }
def TopRoomTurnsSaid : Prop := topRoomTurnsRow.holds Try.pinned (OpenSpec.ofChange topRoomTurnsSpec)

/-- ITS FALSE NEIGHBOUR: 'it returns false'. Refute it at one input. -/
def topRoomTurnsWrong : ChangeSpec := { name := "topRoomTurns", fn := fun _ => fun
  | [d1, d2, d3] => { results := [.lit (.bool false)], args := [d1, d2, d3] }
  | _ => none }
def TopRoomTurnsWrongFalsely : Prop := topRoomTurnsRow.holds Try.pinned (OpenSpec.ofChange topRoomTurnsWrong)

/-- 'acmetop.TopZoneTurns': WHATEVER THE INPUT: true; the input reads as it did. -/
def topZoneTurnsSpec : ChangeSpec := { name := "topZoneTurns", fn := fun _ => fun
  | [d1, d2] => { results := [.lit (.bool true)], args := [d1, d2] }
  | _ => none }
def topZoneTurnsRow : OpenClaim := { program := "ytmekghjgkkjgoaa", sum := "c5d17ae25d30ddc7b02a8e2838780cdc3758ddeef545db283da86474bfdb00c2", func := "acme/acmetop.TopZoneTurns", spec := "topZoneTurns", unfollowed := true, recurses := true, apart := false }
def TopZoneTurnsSaid : Prop := topZoneTurnsRow.holds Try.pinned (OpenSpec.ofChange topZoneTurnsSpec)

/-- ITS FALSE NEIGHBOUR: 'it returns false'. Refute it at one input. -/
def topZoneTurnsWrong : ChangeSpec := { name := "topZoneTurns", fn := fun _ => fun
  | [d1, d2] => { results := [.lit (.bool false)], args := [d1, d2] }
  | _ => none }
def TopZoneTurnsWrongFalsely : Prop := topZoneTurnsRow.holds Try.pinned (OpenSpec.ofChange topZoneTurnsWrong)

/-- 'acmetop.TopGaugeSwap': WHATEVER THE INPUT: true; the input reads as it did. -/
def topGaugeSwapSpec : ChangeSpec := { name := "topGaugeSwap", fn := fun _ => fun
  | [d1, d2, d3] => { results := [.lit (.bool true)], args := [d1, d2, d3] }
  | _ => none }
def topGaugeSwapRow : OpenClaim := { program := "ytmekghjgkkjgoaa", sum := "c5d17ae25d30ddc7b02a8e2838780cdc3758ddeef545db283da86474bfdb00c2", func := "acme/acmetop.TopGaugeSwap", spec := "topGaugeSwap", unfollowed := true, recurses := true, apart := false }
def TopGaugeSwapSaid : Prop := topGaugeSwapRow.holds Try.pinned (OpenSpec.ofChange topGaugeSwapSpec)

/-- ITS FALSE NEIGHBOUR: 'it returns false'. Refute it at one input. -/
def topGaugeSwapWrong : ChangeSpec := { name := "topGaugeSwap", fn := fun _ => fun
  | [d1, d2, d3] => { results := [.lit (.bool false)], args := [d1, d2, d3] }
  | _ => none }
def TopGaugeSwapWrongFalsely : Prop := topGaugeSwapRow.holds Try.pinned (OpenSpec.ofChange topGaugeSwapWrong)

/- THE SECOND FORM. 'bulk': how many values and letters a reading holds, each counted each time it is reached (what is shared counts as often as it is met; a slice's spare places count too). A statement '..UptoSaid' is the law's where the arguments, and the package variables that the reading takes, are together of bulk at most 1048576: NARROWER than '..Said'. Prove '..Said' where nothing that the law and all that it calls make is longer than what came in: it says more and counts as full. Else prove '..UptoSaid'. A law counts once. -/
mutual
def uptoBulk {H : Type} : DataW H → Nat
  | .lit (.string bytes) => bytes.length + 1
  | .lit _ => 1
  | .nil => 1
  | .ptr d => uptoBulk d + 1
  | .slice elems spare => uptoBulkAll elems + uptoBulkAll spare + 1
  | .agg parts => uptoBulkAll parts + 1
  | .iface _ d => uptoBulk d + 1
  | .map entries => uptoBulkEntries entries + 1
  | .held _ => 1
def uptoBulkAll {H : Type} : List (DataW H) → Nat
  | [] => 0
  | d :: r => uptoBulk d + uptoBulkAll r
def uptoBulkEntries {H : Type} : List (Lit × DataW H) → Nat
  | [] => 0
  | x :: r => uptoBulkEntry x + uptoBulkEntries r
def uptoBulkEntry {H : Type} : Lit × DataW H → Nat
  | (.string bytes, d) => bytes.length + uptoBulk d + 1
  | (_, d) => uptoBulk d + 1
 end
def uptoSmall : (H : Type) → List (DataW H) → Bool := fun _ ds => decide (uptoBulkAll ds ≤ 1048576)
def OpenSpec.upto (s : _root_.Go.ChangeSpec) : _root_.Go.OpenSpec := { _root_.Go.OpenSpec.ofChange s with cond := some uptoSmall }

/-- 'acmelaw08.SwapTurns', WHERE WHAT IT READS IS OF BULK AT MOST 1048576: true; the input reads as it did. -/
def swapTurnsUptoRow : OpenClaim := { program := "ytmekghjgkkjgoaa", sum := "c5d17ae25d30ddc7b02a8e2838780cdc3758ddeef545db283da86474bfdb00c2", func := "acme/acmelaw08.SwapTurns", spec := "swapTurns", unfollowed := true, recurses := true, apart := false, narrowed := true }
def SwapTurnsUptoSaid : Prop := swapTurnsUptoRow.holds Try.pinned (OpenSpec.upto swapTurnsSpec)

/-- 'acmelaw08.SwapRanges', WHERE WHAT IT READS IS OF BULK AT MOST 1048576: true; the input reads as it did. -/
def swapRangesUptoRow : OpenClaim := { program := "ytmekghjgkkjgoaa", sum := "c5d17ae25d30ddc7b02a8e2838780cdc3758ddeef545db283da86474bfdb00c2", func := "acme/acmelaw08.SwapRanges", spec := "swapRanges", unfollowed := true, recurses := true, apart := false, narrowed := true }
def SwapRangesUptoSaid : Prop := swapRangesUptoRow.holds Try.pinned (OpenSpec.upto swapRangesSpec)

/-- 'acmelaw08.SwapToTheTurn', WHERE WHAT IT READS IS OF BULK AT MOST 1048576: true; the input reads as it did. -/
def swapToTheTurnUptoRow : OpenClaim := { program := "ytmekghjgkkjgoaa", sum := "c5d17ae25d30ddc7b02a8e2838780cdc3758ddeef545db283da86474bfdb00c2", func := "acme/acmelaw08.SwapToTheTurn", spec := "swapToTheTurn", unfollowed := true, recurses := true, apart := false, narrowed := true }
def SwapToTheTurnUptoSaid : Prop := swapToTheTurnUptoRow.holds Try.pinned (OpenSpec.upto swapToTheTurnSpec)

/-- 'acmetop.TopTurnsFit', WHERE WHAT IT READS IS OF BULK AT MOST 1048576: true; the input reads as it did. -/
def topTurnsFitUptoRow : OpenClaim := { program := "ytmekghjgkkjgoaa", sum := "c5d17ae25d30ddc7b02a8e2838780cdc3758ddeef545db283da86474bfdb00c2", func := "acme/acmetop.TopTurnsFit", spec := "topTurnsFit", unfollowed := true, recurses := true, apart := false, narrowed := true }
def TopTurnsFitUptoSaid : Prop := topTurnsFitUptoRow.holds Try.pinned (OpenSpec.upto topTurnsFitSpec)

/-- 'acmetop.TopTurnsDeep', WHERE WHAT IT READS IS OF BULK AT MOST 1048576: true; the input reads as it did. -/
def topTurnsDeepUptoRow : OpenClaim := { program := "ytmekghjgkkjgoaa", sum := "c5d17ae25d30ddc7b02a8e2838780cdc3758ddeef545db283da86474bfdb00c2", func := "acme/acmetop.TopTurnsDeep", spec := "topTurnsDeep", unfollowed := true, recurses := true, apart := false, narrowed := true }
def TopTurnsDeepUptoSaid : Prop := topTurnsDeepUptoRow.holds Try.pinned (OpenSpec.upto topTurnsDeepSpec)

/-- 'acmetop.TopRoomTurns', WHERE WHAT IT READS IS OF BULK AT MOST 1048576: true; the input reads as it did. -/
def topRoomTurnsUptoRow : OpenClaim := { program := "ytmekghjgkkjgoaa", sum := "c5d17ae25d30ddc7b02a8e2838780cdc3758ddeef545db283da86474bfdb00c2", func := "acme/acmetop.TopRoomTurns", spec := "topRoomTurns", unfollowed := true, recurses := true, apart := false, narrowed := true }
def TopRoomTurnsUptoSaid : Prop := topRoomTurnsUptoRow.holds Try.pinned (OpenSpec.upto topRoomTurnsSpec)

/-- 'acmetop.TopZoneTurns', WHERE WHAT IT READS IS OF BULK AT MOST 1048576: true; the input reads as it did. -/
def topZoneTurnsUptoRow : OpenClaim := { program := "ytmekghjgkkjgoaa", sum := "c5d17ae25d30ddc7b02a8e2838780cdc3758ddeef545db283da86474bfdb00c2", func := "acme/acmetop.TopZoneTurns", spec := "topZoneTurns", unfollowed := true, recurses := true, apart := false, narrowed := true }
def TopZoneTurnsUptoSaid : Prop := topZoneTurnsUptoRow.holds Try.pinned (OpenSpec.upto topZoneTurnsSpec)

/-- 'acmetop.TopGaugeSwap', WHERE WHAT IT READS IS OF BULK AT MOST 1048576: true; the input reads as it did. -/
def topGaugeSwapUptoRow : OpenClaim := { program := "ytmekghjgkkjgoaa", sum := "c5d17ae25d30ddc7b02a8e2838780cdc3758ddeef545db283da86474bfdb00c2", func := "acme/acmetop.TopGaugeSwap", spec := "topGaugeSwap", unfollowed := true, recurses := true, apart := false, narrowed := true }
def TopGaugeSwapUptoSaid : Prop := topGaugeSwapUptoRow.holds Try.pinned (OpenSpec.upto topGaugeSwapSpec)

end Rows
end Go.Proofs.Ytmekghjgkkjgoaa
