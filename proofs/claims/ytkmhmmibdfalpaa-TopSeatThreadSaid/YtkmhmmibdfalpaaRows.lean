/-
  No cell of these rows narrows 'for every input' (looked for: loops, veiled, ifaces, maps, wideKeys, modest, calm, conditions, laid).
  DERIVED. THE GIVEN ROWS OF THIS SEAT. 9 by the template 'for every input the law returns true; each argument reads behind the call as it read before'; 0 by the template 'total and deterministic' (their statements: YtkmhmmibdfalpaaTotals.lean).
  GIVEN WITH THE SEED: the statements are not yours to turn. If you find one false, say at which input.
  Laid BY PROGRAM, IN A SANDBOX (cutbox-rows.mjs): the forced cells as the released guide's own fill.sh prints them over the translation efe98c7a6c8ca9a5… (all of the seat's roots in one cut). By AI agents, Wed Nov 11 2026. No macro, syntax, notation, axiom, sorry.
-/
import Derived.Test.YtkmhmmibdfalpaaChecked
import GoSem.Claim
import GoSem.ClaimJoined
import GoSem.ClaimMapViews
import Derived.JoinedTies
import Derived.KernelRfl
namespace Go.Proofs.Ytkmhmmibdfalpaa
/- THE CELL 'sum', in the pinned program and in every row, IS THE sha256 OF THE DUMP (.gsa) THAT YtkmhmmibdfalpaaProg.lean LOADS. Nothing in Lean hashes anything: it is a label: what it is worth is what the hold of that sum in a sandbox is worth. -/
noncomputable def Try.pinned : Pinned := { name := "ytkmhmmibdfalpaa", sum := "efe98c7a6c8ca9a5e61e1fa47dee214bb61bc1dbbbc9a51cac5980228c23a818", checked := Try.checked }
namespace Rows
def none {H : Type} : Left H := { results := [], args := [] }

/-- 'acmelaw04.GaugeSizes': WHATEVER THE INPUT: true; the input reads as it did. -/
def gaugeSizesSpec : ChangeSpec := { name := "gaugeSizes", fn := fun _ => fun
  | [d1, d2, d3] => { results := [.lit (.bool true)], args := [d1, d2, d3] }
  | _ => none }
def gaugeSizesRow : OpenClaim := { program := "ytkmhmmibdfalpaa", sum := "efe98c7a6c8ca9a5e61e1fa47dee214bb61bc1dbbbc9a51cac5980228c23a818", func := "acme/acmelaw04.GaugeSizes", spec := "gaugeSizes", unfollowed := true, recurses := true, plainKeys := false, apart := false }
def GaugeSizesSaid : Prop := gaugeSizesRow.holds Try.pinned (OpenSpec.ofChange gaugeSizesSpec)

/-- ITS FALSE NEIGHBOUR: 'it returns false'. Refute it at one input. -/
def gaugeSizesWrong : ChangeSpec := { name := "gaugeSizes", fn := fun _ => fun
  | [d1, d2, d3] => { results := [.lit (.bool false)], args := [d1, d2, d3] }
  | _ => none }
def GaugeSizesWrongFalsely : Prop := gaugeSizesRow.holds Try.pinned (OpenSpec.ofChange gaugeSizesWrong)

/-- 'acmelaw04.GaugeWrongs': WHATEVER THE INPUT: true; the input reads as it did. -/
def gaugeWrongsSpec : ChangeSpec := { name := "gaugeWrongs", fn := fun _ => fun
  | [d1, d2] => { results := [.lit (.bool true)], args := [d1, d2] }
  | _ => none }
def gaugeWrongsRow : OpenClaim := { program := "ytkmhmmibdfalpaa", sum := "efe98c7a6c8ca9a5e61e1fa47dee214bb61bc1dbbbc9a51cac5980228c23a818", func := "acme/acmelaw04.GaugeWrongs", spec := "gaugeWrongs", unfollowed := true, recurses := true, plainKeys := false, apart := false }
def GaugeWrongsSaid : Prop := gaugeWrongsRow.holds Try.pinned (OpenSpec.ofChange gaugeWrongsSpec)

/-- ITS FALSE NEIGHBOUR: 'it returns false'. Refute it at one input. -/
def gaugeWrongsWrong : ChangeSpec := { name := "gaugeWrongs", fn := fun _ => fun
  | [d1, d2] => { results := [.lit (.bool false)], args := [d1, d2] }
  | _ => none }
def GaugeWrongsWrongFalsely : Prop := gaugeWrongsRow.holds Try.pinned (OpenSpec.ofChange gaugeWrongsWrong)

/-- 'acmelaw04.GaugeLasts': WHATEVER THE INPUT: true; the input reads as it did. -/
def gaugeLastsSpec : ChangeSpec := { name := "gaugeLasts", fn := fun _ => fun
  | [d1, d2, d3] => { results := [.lit (.bool true)], args := [d1, d2, d3] }
  | _ => none }
def gaugeLastsRow : OpenClaim := { program := "ytkmhmmibdfalpaa", sum := "efe98c7a6c8ca9a5e61e1fa47dee214bb61bc1dbbbc9a51cac5980228c23a818", func := "acme/acmelaw04.GaugeLasts", spec := "gaugeLasts", unfollowed := true, recurses := true, plainKeys := false, apart := false }
def GaugeLastsSaid : Prop := gaugeLastsRow.holds Try.pinned (OpenSpec.ofChange gaugeLastsSpec)

/-- ITS FALSE NEIGHBOUR: 'it returns false'. Refute it at one input. -/
def gaugeLastsWrong : ChangeSpec := { name := "gaugeLasts", fn := fun _ => fun
  | [d1, d2, d3] => { results := [.lit (.bool false)], args := [d1, d2, d3] }
  | _ => none }
def GaugeLastsWrongFalsely : Prop := gaugeLastsRow.holds Try.pinned (OpenSpec.ofChange gaugeLastsWrong)

/-- 'acmelaw04.GaugeGains': WHATEVER THE INPUT: true; the input reads as it did. -/
def gaugeGainsSpec : ChangeSpec := { name := "gaugeGains", fn := fun _ => fun
  | [d1, d2, d3] => { results := [.lit (.bool true)], args := [d1, d2, d3] }
  | _ => none }
def gaugeGainsRow : OpenClaim := { program := "ytkmhmmibdfalpaa", sum := "efe98c7a6c8ca9a5e61e1fa47dee214bb61bc1dbbbc9a51cac5980228c23a818", func := "acme/acmelaw04.GaugeGains", spec := "gaugeGains", unfollowed := true, recurses := true, plainKeys := false, apart := false }
def GaugeGainsSaid : Prop := gaugeGainsRow.holds Try.pinned (OpenSpec.ofChange gaugeGainsSpec)

/-- ITS FALSE NEIGHBOUR: 'it returns false'. Refute it at one input. -/
def gaugeGainsWrong : ChangeSpec := { name := "gaugeGains", fn := fun _ => fun
  | [d1, d2, d3] => { results := [.lit (.bool false)], args := [d1, d2, d3] }
  | _ => none }
def GaugeGainsWrongFalsely : Prop := gaugeGainsRow.holds Try.pinned (OpenSpec.ofChange gaugeGainsWrong)

/-- 'acmelaw04.GaugeTruths': WHATEVER THE INPUT: true; the input reads as it did. -/
def gaugeTruthsSpec : ChangeSpec := { name := "gaugeTruths", fn := fun _ => fun
  | [d] => { results := [.lit (.bool true)], args := [d] }
  | _ => none }
def gaugeTruthsRow : OpenClaim := { program := "ytkmhmmibdfalpaa", sum := "efe98c7a6c8ca9a5e61e1fa47dee214bb61bc1dbbbc9a51cac5980228c23a818", func := "acme/acmelaw04.GaugeTruths", spec := "gaugeTruths", unfollowed := true, recurses := true, plainKeys := false, apart := false }
def GaugeTruthsSaid : Prop := gaugeTruthsRow.holds Try.pinned (OpenSpec.ofChange gaugeTruthsSpec)

/-- ITS FALSE NEIGHBOUR: 'it returns false'. Refute it at one input. -/
def gaugeTruthsWrong : ChangeSpec := { name := "gaugeTruths", fn := fun _ => fun
  | [d] => { results := [.lit (.bool false)], args := [d] }
  | _ => none }
def GaugeTruthsWrongFalsely : Prop := gaugeTruthsRow.holds Try.pinned (OpenSpec.ofChange gaugeTruthsWrong)

/-- 'acmelaw04.GaugeEnds': WHATEVER THE INPUT: true; the input reads as it did. -/
def gaugeEndsSpec : ChangeSpec := { name := "gaugeEnds", fn := fun _ => fun
  | [d1, d2] => { results := [.lit (.bool true)], args := [d1, d2] }
  | _ => none }
def gaugeEndsRow : OpenClaim := { program := "ytkmhmmibdfalpaa", sum := "efe98c7a6c8ca9a5e61e1fa47dee214bb61bc1dbbbc9a51cac5980228c23a818", func := "acme/acmelaw04.GaugeEnds", spec := "gaugeEnds", unfollowed := true, recurses := true, plainKeys := false, apart := false }
def GaugeEndsSaid : Prop := gaugeEndsRow.holds Try.pinned (OpenSpec.ofChange gaugeEndsSpec)

/-- ITS FALSE NEIGHBOUR: 'it returns false'. Refute it at one input. -/
def gaugeEndsWrong : ChangeSpec := { name := "gaugeEnds", fn := fun _ => fun
  | [d1, d2] => { results := [.lit (.bool false)], args := [d1, d2] }
  | _ => none }
def GaugeEndsWrongFalsely : Prop := gaugeEndsRow.holds Try.pinned (OpenSpec.ofChange gaugeEndsWrong)

/-- 'acmelaw04.GaugeInTime': WHATEVER THE INPUT: true; the input reads as it did. -/
def gaugeInTimeSpec : ChangeSpec := { name := "gaugeInTime", fn := fun _ => fun
  | [d1, d2] => { results := [.lit (.bool true)], args := [d1, d2] }
  | _ => none }
def gaugeInTimeRow : OpenClaim := { program := "ytkmhmmibdfalpaa", sum := "efe98c7a6c8ca9a5e61e1fa47dee214bb61bc1dbbbc9a51cac5980228c23a818", func := "acme/acmelaw04.GaugeInTime", spec := "gaugeInTime", unfollowed := true, recurses := true, plainKeys := false, apart := false }
def GaugeInTimeSaid : Prop := gaugeInTimeRow.holds Try.pinned (OpenSpec.ofChange gaugeInTimeSpec)

/-- ITS FALSE NEIGHBOUR: 'it returns false'. Refute it at one input. -/
def gaugeInTimeWrong : ChangeSpec := { name := "gaugeInTime", fn := fun _ => fun
  | [d1, d2] => { results := [.lit (.bool false)], args := [d1, d2] }
  | _ => none }
def GaugeInTimeWrongFalsely : Prop := gaugeInTimeRow.holds Try.pinned (OpenSpec.ofChange gaugeInTimeWrong)

/-- 'acmelaw04.GaugeRing': WHATEVER THE INPUT: true; the input reads as it did. -/
def gaugeRingSpec : ChangeSpec := { name := "gaugeRing", fn := fun _ => fun
  | [d1, d2, d3] => { results := [.lit (.bool true)], args := [d1, d2, d3] }
  | _ => none }
def gaugeRingRow : OpenClaim := { program := "ytkmhmmibdfalpaa", sum := "efe98c7a6c8ca9a5e61e1fa47dee214bb61bc1dbbbc9a51cac5980228c23a818", func := "acme/acmelaw04.GaugeRing", spec := "gaugeRing", unfollowed := true, recurses := true, plainKeys := false, apart := false }
def GaugeRingSaid : Prop := gaugeRingRow.holds Try.pinned (OpenSpec.ofChange gaugeRingSpec)

/-- ITS FALSE NEIGHBOUR: 'it returns false'. Refute it at one input. -/
def gaugeRingWrong : ChangeSpec := { name := "gaugeRing", fn := fun _ => fun
  | [d1, d2, d3] => { results := [.lit (.bool false)], args := [d1, d2, d3] }
  | _ => none }
def GaugeRingWrongFalsely : Prop := gaugeRingRow.holds Try.pinned (OpenSpec.ofChange gaugeRingWrong)

/-- 'acmetop.TopSeatThread': WHATEVER THE INPUT: true; the input reads as it did. -/
def topSeatThreadSpec : ChangeSpec := { name := "topSeatThread", fn := fun _ => fun
  | [d1, d2, d3] => { results := [.lit (.bool true)], args := [d1, d2, d3] }
  | _ => none }
def topSeatThreadRow : OpenClaim := { program := "ytkmhmmibdfalpaa", sum := "efe98c7a6c8ca9a5e61e1fa47dee214bb61bc1dbbbc9a51cac5980228c23a818", func := "acme/acmetop.TopSeatThread", spec := "topSeatThread", unfollowed := true, recurses := true, plainKeys := false, apart := false }
def TopSeatThreadSaid : Prop := topSeatThreadRow.holds Try.pinned (OpenSpec.ofChange topSeatThreadSpec)

/-- ITS FALSE NEIGHBOUR: 'it returns false'. Refute it at one input. -/
def topSeatThreadWrong : ChangeSpec := { name := "topSeatThread", fn := fun _ => fun
  | [d1, d2, d3] => { results := [.lit (.bool false)], args := [d1, d2, d3] }
  | _ => none }
def TopSeatThreadWrongFalsely : Prop := topSeatThreadRow.holds Try.pinned (OpenSpec.ofChange topSeatThreadWrong)

/- THE SECOND FORM. 'bulk': how many values and letters a reading holds, each counted each time it is reached (what is shared counts as often as it is met; a slice's spare places count too). A statement '..UptoSaid' is the law's where the arguments, and the package variables that the reading takes, are together of bulk at most 1048576: NARROWER than '..Said'. Prove '..Said' where nothing that the law and all that it calls make is longer than what came in: it says more and counts as full. Else prove '..UptoSaid'. A law counts once. -/
mutual
def uptoBulk {H : Type} : DataW H → Nat
  | .lit (.string bytes) => bytes.length + 1
  | .lit _ => 1
  | .nil => 1
  | .ptr d => uptoBulk d + 1
  | .slice elems spare => uptoBulkAll elems + uptoBulkAll spare + 1
  | .agg parts => uptoBulkAll parts + 1
  | .iface _ d => uptoBulk d + 1
  | .map entries => uptoBulkEntries entries + 1
  | .held _ => 1
def uptoBulkAll {H : Type} : List (DataW H) → Nat
  | [] => 0
  | d :: r => uptoBulk d + uptoBulkAll r
def uptoBulkEntries {H : Type} : List (Lit × DataW H) → Nat
  | [] => 0
  | x :: r => uptoBulkEntry x + uptoBulkEntries r
def uptoBulkEntry {H : Type} : Lit × DataW H → Nat
  | (.string bytes, d) => bytes.length + uptoBulk d + 1
  | (_, d) => uptoBulk d + 1
 end
def uptoSmall : (H : Type) → List (DataW H) → Bool := fun _ ds => decide (uptoBulkAll ds ≤ 1048576)
def OpenSpec.upto (s : _root_.Go.ChangeSpec) : _root_.Go.OpenSpec := { _root_.Go.OpenSpec.ofChange s with cond := some uptoSmall }

/-- 'acmelaw04.GaugeSizes', WHERE WHAT IT READS IS OF BULK AT MOST 1048576: true; the input reads as it did. -/
def gaugeSizesUptoRow : OpenClaim := { program := "ytkmhmmibdfalpaa", sum := "efe98c7a6c8ca9a5e61e1fa47dee214bb61bc1dbbbc9a51cac5980228c23a818", func := "acme/acmelaw04.GaugeSizes", spec := "gaugeSizes", unfollowed := true, recurses := true, plainKeys := false, apart := false, narrowed := true }
def GaugeSizesUptoSaid : Prop := gaugeSizesUptoRow.holds Try.pinned (OpenSpec.upto gaugeSizesSpec)

/-- 'acmelaw04.GaugeWrongs', WHERE WHAT IT READS IS OF BULK AT MOST 1048576: true; the input reads as it did. -/
def gaugeWrongsUptoRow : OpenClaim := { program := "ytkmhmmibdfalpaa", sum := "efe98c7a6c8ca9a5e61e1fa47dee214bb61bc1dbbbc9a51cac5980228c23a818", func := "acme/acmelaw04.GaugeWrongs", spec := "gaugeWrongs", unfollowed := true, recurses := true, plainKeys := false, apart := false, narrowed := true }
def GaugeWrongsUptoSaid : Prop := gaugeWrongsUptoRow.holds Try.pinned (OpenSpec.upto gaugeWrongsSpec)

/-- 'acmelaw04.GaugeLasts', WHERE WHAT IT READS IS OF BULK AT MOST 1048576: true; the input reads as it did. -/
def gaugeLastsUptoRow : OpenClaim := { program := "ytkmhmmibdfalpaa", sum := "efe98c7a6c8ca9a5e61e1fa47dee214bb61bc1dbbbc9a51cac5980228c23a818", func := "acme/acmelaw04.GaugeLasts", spec := "gaugeLasts", unfollowed := true, recurses := true, plainKeys := false, apart := false, narrowed := true }
def GaugeLastsUptoSaid : Prop := gaugeLastsUptoRow.holds Try.pinned (OpenSpec.upto gaugeLastsSpec)

/-- 'acmelaw04.GaugeGains', WHERE WHAT IT READS IS OF BULK AT MOST 1048576: true; the input reads as it did. -/
def gaugeGainsUptoRow : OpenClaim := { program := "ytkmhmmibdfalpaa", sum := "efe98c7a6c8ca9a5e61e1fa47dee214bb61bc1dbbbc9a51cac5980228c23a818", func := "acme/acmelaw04.GaugeGains", spec := "gaugeGains", unfollowed := true, recurses := true, plainKeys := false, apart := false, narrowed := true }
def GaugeGainsUptoSaid : Prop := gaugeGainsUptoRow.holds Try.pinned (OpenSpec.upto gaugeGainsSpec)

/-- 'acmelaw04.GaugeTruths', WHERE WHAT IT READS IS OF BULK AT MOST 1048576: true; the input reads as it did. -/
def gaugeTruthsUptoRow : OpenClaim := { program := "ytkmhmmibdfalpaa", sum := "efe98c7a6c8ca9a5e61e1fa47dee214bb61bc1dbbbc9a51cac5980228c23a818", func := "acme/acmelaw04.GaugeTruths", spec := "gaugeTruths", unfollowed := true, recurses := true, plainKeys := false, apart := false, narrowed := true }
def GaugeTruthsUptoSaid : Prop := gaugeTruthsUptoRow.holds Try.pinned (OpenSpec.upto gaugeTruthsSpec)

/-- 'acmelaw04.GaugeEnds', WHERE WHAT IT READS IS OF BULK AT MOST 1048576: true; the input reads as it did. -/
def gaugeEndsUptoRow : OpenClaim := { program := "ytkmhmmibdfalpaa", sum := "efe98c7a6c8ca9a5e61e1fa47dee214bb61bc1dbbbc9a51cac5980228c23a818", func := "acme/acmelaw04.GaugeEnds", spec := "gaugeEnds", unfollowed := true, recurses := true, plainKeys := false, apart := false, narrowed := true }
def GaugeEndsUptoSaid : Prop := gaugeEndsUptoRow.holds Try.pinned (OpenSpec.upto gaugeEndsSpec)

/-- 'acmelaw04.GaugeInTime', WHERE WHAT IT READS IS OF BULK AT MOST 1048576: true; the input reads as it did. -/
def gaugeInTimeUptoRow : OpenClaim := { program := "ytkmhmmibdfalpaa", sum := "efe98c7a6c8ca9a5e61e1fa47dee214bb61bc1dbbbc9a51cac5980228c23a818", func := "acme/acmelaw04.GaugeInTime", spec := "gaugeInTime", unfollowed := true, recurses := true, plainKeys := false, apart := false, narrowed := true }
def GaugeInTimeUptoSaid : Prop := gaugeInTimeUptoRow.holds Try.pinned (OpenSpec.upto gaugeInTimeSpec)

/-- 'acmelaw04.GaugeRing', WHERE WHAT IT READS IS OF BULK AT MOST 1048576: true; the input reads as it did. -/
def gaugeRingUptoRow : OpenClaim := { program := "ytkmhmmibdfalpaa", sum := "efe98c7a6c8ca9a5e61e1fa47dee214bb61bc1dbbbc9a51cac5980228c23a818", func := "acme/acmelaw04.GaugeRing", spec := "gaugeRing", unfollowed := true, recurses := true, plainKeys := false, apart := false, narrowed := true }
def GaugeRingUptoSaid : Prop := gaugeRingUptoRow.holds Try.pinned (OpenSpec.upto gaugeRingSpec)

/-- 'acmetop.TopSeatThread', WHERE WHAT IT READS IS OF BULK AT MOST 1048576: true; the input reads as it did. -/
def topSeatThreadUptoRow : OpenClaim := { program := "ytkmhmmibdfalpaa", sum := "efe98c7a6c8ca9a5e61e1fa47dee214bb61bc1dbbbc9a51cac5980228c23a818", func := "acme/acmetop.TopSeatThread", spec := "topSeatThread", unfollowed := true, recurses := true, plainKeys := false, apart := false, narrowed := true }
def TopSeatThreadUptoSaid : Prop := topSeatThreadUptoRow.holds Try.pinned (OpenSpec.upto topSeatThreadSpec)

end Rows
end Go.Proofs.Ytkmhmmibdfalpaa
