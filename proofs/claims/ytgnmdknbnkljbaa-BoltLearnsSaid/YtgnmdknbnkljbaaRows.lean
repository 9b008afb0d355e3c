/-
  No cell of these rows narrows 'for every input' (looked for: loops, veiled, ifaces, maps, wideKeys, modest, calm, conditions, laid).
  DERIVED. THE GIVEN ROWS OF THIS SEAT. 9 by the template 'for every input the law returns true; each argument reads behind the call as it read before'; 0 by the template 'total and deterministic' (their statements: YtgnmdknbnkljbaaTotals.lean).
  GIVEN WITH THE SEED: the statements are not yours to turn. If you find one false, say at which input.
  Laid BY PROGRAM, IN A SANDBOX (cutbox-rows.mjs): the forced cells as the released guide's own fill.sh prints them over the translation 49b55cb92210f909… (all of the seat's roots in one cut). By AI agents, Wed Nov 11 2026. No macro, syntax, notation, axiom, sorry.
-/
import Derived.Test.YtgnmdknbnkljbaaChecked
import GoSem.Claim
import GoSem.ClaimJoined
import GoSem.ClaimMapViews
import Derived.JoinedTies
import Derived.KernelRfl
namespace Go.Proofs.Ytgnmdknbnkljbaa
/- THE CELL 'sum', in the pinned program and in every row, IS THE sha256 OF THE DUMP (.gsa) THAT YtgnmdknbnkljbaaProg.lean LOADS. Nothing in Lean hashes anything: it is a label: what it is worth is what the hold of that sum in a sandbox is worth. -/
noncomputable def Try.pinned : Pinned := { name := "ytgnmdknbnkljbaa", sum := "49b55cb92210f9095f6671672b2e24b434fb0a6deb38ca0a42e1e757f535998c", checked := Try.checked }
namespace Rows
def none {H : Type} : Left H := { results := [], args := [] }

/-- 'acmelaw09.BoltForces': WHATEVER THE INPUT: true; the input reads as it did. -/
def boltForcesSpec : ChangeSpec := { name := "boltForces", fn := fun _ => fun
  | [d1, d2, d3] => { results := [.lit (.bool true)], args := [d1, d2, d3] }
  | _ => none }
def boltForcesRow : OpenClaim := { program := "ytgnmdknbnkljbaa", sum := "49b55cb92210f9095f6671672b2e24b434fb0a6deb38ca0a42e1e757f535998c", func := "acme/acmelaw09.BoltForces", spec := "boltForces", unfollowed := true, recurses := true, apart := false }
def BoltForcesSaid : Prop := boltForcesRow.holds Try.pinned (OpenSpec.ofChange boltForcesSpec)

/-- ITS FALSE NEIGHBOUR: 'it returns false'. Refute it at one input. -/
def boltForcesWrong : ChangeSpec := { name := "boltForces", fn := fun _ => fun
  | [d1, d2, d3] => { results := [.lit (.bool false)], args := [d1, d2, d3] }
  | _ => none }
def BoltForcesWrongFalsely : Prop := boltForcesRow.holds Try.pinned (OpenSpec.ofChange boltForcesWrong)

/-- 'acmelaw09.BoltTorques': WHATEVER THE INPUT: true; the input reads as it did. -/
def boltTorquesSpec : ChangeSpec := { name := "boltTorques", fn := fun _ => fun
  | [d1, d2] => { results := [.lit (.bool true)], args := [d1, d2] }
  | _ => none }
def boltTorquesRow : OpenClaim := { program := "ytgnmdknbnkljbaa", sum := "49b55cb92210f9095f6671672b2e24b434fb0a6deb38ca0a42e1e757f535998c", func := "acme/acmelaw09.BoltTorques", spec := "boltTorques", unfollowed := true, recurses := true, apart := false }
def BoltTorquesSaid : Prop := boltTorquesRow.holds Try.pinned (OpenSpec.ofChange boltTorquesSpec)

/-- ITS FALSE NEIGHBOUR: 'it returns false'. Refute it at one input. -/
def boltTorquesWrong : ChangeSpec := { name := "boltTorques", fn := fun _ => fun
  | [d1, d2] => { results := [.lit (.bool false)], args := [d1, d2] }
  | _ => none }
def BoltTorquesWrongFalsely : Prop := boltTorquesRow.holds Try.pinned (OpenSpec.ofChange boltTorquesWrong)

/-- 'acmelaw09.BoltBests': WHATEVER THE INPUT: true; the input reads as it did. -/
def boltBestsSpec : ChangeSpec := { name := "boltBests", fn := fun _ => fun
  | [d1, d2, d3] => { results := [.lit (.bool true)], args := [d1, d2, d3] }
  | _ => none }
def boltBestsRow : OpenClaim := { program := "ytgnmdknbnkljbaa", sum := "49b55cb92210f9095f6671672b2e24b434fb0a6deb38ca0a42e1e757f535998c", func := "acme/acmelaw09.BoltBests", spec := "boltBests", unfollowed := true, recurses := true, apart := false }
def BoltBestsSaid : Prop := boltBestsRow.holds Try.pinned (OpenSpec.ofChange boltBestsSpec)

/-- ITS FALSE NEIGHBOUR: 'it returns false'. Refute it at one input. -/
def boltBestsWrong : ChangeSpec := { name := "boltBests", fn := fun _ => fun
  | [d1, d2, d3] => { results := [.lit (.bool false)], args := [d1, d2, d3] }
  | _ => none }
def BoltBestsWrongFalsely : Prop := boltBestsRow.holds Try.pinned (OpenSpec.ofChange boltBestsWrong)

/-- 'acmelaw09.BoltLooses': WHATEVER THE INPUT: true; the input reads as it did. -/
def boltLoosesSpec : ChangeSpec := { name := "boltLooses", fn := fun _ => fun
  | [d1, d2] => { results := [.lit (.bool true)], args := [d1, d2] }
  | _ => none }
def boltLoosesRow : OpenClaim := { program := "ytgnmdknbnkljbaa", sum := "49b55cb92210f9095f6671672b2e24b434fb0a6deb38ca0a42e1e757f535998c", func := "acme/acmelaw09.BoltLooses", spec := "boltLooses", unfollowed := true, recurses := true, apart := false }
def BoltLoosesSaid : Prop := boltLoosesRow.holds Try.pinned (OpenSpec.ofChange boltLoosesSpec)

/-- ITS FALSE NEIGHBOUR: 'it returns false'. Refute it at one input. -/
def boltLoosesWrong : ChangeSpec := { name := "boltLooses", fn := fun _ => fun
  | [d1, d2] => { results := [.lit (.bool false)], args := [d1, d2] }
  | _ => none }
def BoltLoosesWrongFalsely : Prop := boltLoosesRow.holds Try.pinned (OpenSpec.ofChange boltLoosesWrong)

/-- 'acmelaw09.BoltLearns': WHATEVER THE INPUT: true; the input reads as it did. -/
def boltLearnsSpec : ChangeSpec := { name := "boltLearns", fn := fun _ => fun
  | [d1, d2, d3] => { results := [.lit (.bool true)], args := [d1, d2, d3] }
  | _ => none }
def boltLearnsRow : OpenClaim := { program := "ytgnmdknbnkljbaa", sum := "49b55cb92210f9095f6671672b2e24b434fb0a6deb38ca0a42e1e757f535998c", func := "acme/acmelaw09.BoltLearns", spec := "boltLearns", unfollowed := true, recurses := true, apart := false }
def BoltLearnsSaid : Prop := boltLearnsRow.holds Try.pinned (OpenSpec.ofChange boltLearnsSpec)

/-- ITS FALSE NEIGHBOUR: 'it returns false'. Refute it at one input. -/
def boltLearnsWrong : ChangeSpec := { name := "boltLearns", fn := fun _ => fun
  | [d1, d2, d3] => { results := [.lit (.bool false)], args := [d1, d2, d3] }
  | _ => none }
def BoltLearnsWrongFalsely : Prop := boltLearnsRow.holds Try.pinned (OpenSpec.ofChange boltLearnsWrong)

/-- 'acmelaw09.BoltNarrows': WHATEVER THE INPUT: true; the input reads as it did. -/
def boltNarrowsSpec : ChangeSpec := { name := "boltNarrows", fn := fun _ => fun
  | [d1, d2, d3] => { results := [.lit (.bool true)], args := [d1, d2, d3] }
  | _ => none }
def boltNarrowsRow : OpenClaim := { program := "ytgnmdknbnkljbaa", sum := "49b55cb92210f9095f6671672b2e24b434fb0a6deb38ca0a42e1e757f535998c", func := "acme/acmelaw09.BoltNarrows", spec := "boltNarrows", unfollowed := true, recurses := true, apart := false }
def BoltNarrowsSaid : Prop := boltNarrowsRow.holds Try.pinned (OpenSpec.ofChange boltNarrowsSpec)

/-- ITS FALSE NEIGHBOUR: 'it returns false'. Refute it at one input. -/
def boltNarrowsWrong : ChangeSpec := { name := "boltNarrows", fn := fun _ => fun
  | [d1, d2, d3] => { results := [.lit (.bool false)], args := [d1, d2, d3] }
  | _ => none }
def BoltNarrowsWrongFalsely : Prop := boltNarrowsRow.holds Try.pinned (OpenSpec.ofChange boltNarrowsWrong)

/-- 'acmetop.TopRightFlange': WHATEVER THE INPUT: true; the input reads as it did. -/
def topRightFlangeSpec : ChangeSpec := { name := "topRightFlange", fn := fun _ => fun
  | [d1, d2, d3] => { results := [.lit (.bool true)], args := [d1, d2, d3] }
  | _ => none }
def topRightFlangeRow : OpenClaim := { program := "ytgnmdknbnkljbaa", sum := "49b55cb92210f9095f6671672b2e24b434fb0a6deb38ca0a42e1e757f535998c", func := "acme/acmetop.TopRightFlange", spec := "topRightFlange", unfollowed := true, recurses := true, apart := false }
def TopRightFlangeSaid : Prop := topRightFlangeRow.holds Try.pinned (OpenSpec.ofChange topRightFlangeSpec)

/-- ITS FALSE NEIGHBOUR: 'it returns false'. Refute it at one input. -/
def topRightFlangeWrong : ChangeSpec := { name := "topRightFlange", fn := fun _ => fun
  | [d1, d2, d3] => { results := [.lit (.bool false)], args := [d1, d2, d3] }
  | _ => none }
def TopRightFlangeWrongFalsely : Prop := topRightFlangeRow.holds Try.pinned (OpenSpec.ofChange topRightFlangeWrong)

/-- 'acmetop.TopBestFlange': WHATEVER THE INPUT: true; the input reads as it did. -/
def topBestFlangeSpec : ChangeSpec := { name := "topBestFlange", fn := fun _ => fun
  | [d1, d2, d3] => { results := [.lit (.bool true)], args := [d1, d2, d3] }
  | _ => none }
def topBestFlangeRow : OpenClaim := { program := "ytgnmdknbnkljbaa", sum := "49b55cb92210f9095f6671672b2e24b434fb0a6deb38ca0a42e1e757f535998c", func := "acme/acmetop.TopBestFlange", spec := "topBestFlange", unfollowed := true, recurses := true, apart := false }
def TopBestFlangeSaid : Prop := topBestFlangeRow.holds Try.pinned (OpenSpec.ofChange topBestFlangeSpec)

/-- ITS FALSE NEIGHBOUR: 'it returns false'. Refute it at one input. -/
def topBestFlangeWrong : ChangeSpec := { name := "topBestFlange", fn := fun _ => fun
  | [d1, d2, d3] => { results := [.lit (.bool false)], args := [d1, d2, d3] }
  | _ => none }
def TopBestFlangeWrongFalsely : Prop := topBestFlangeRow.holds Try.pinned (OpenSpec.ofChange topBestFlangeWrong)

/-- 'acmetop.TopLossFlange': WHATEVER THE INPUT: true; the input reads as it did. -/
def topLossFlangeSpec : ChangeSpec := { name := "topLossFlange", fn := fun _ => fun
  | [d1, d2, d3] => { results := [.lit (.bool true)], args := [d1, d2, d3] }
  | _ => none }
def topLossFlangeRow : OpenClaim := { program := "ytgnmdknbnkljbaa", sum := "49b55cb92210f9095f6671672b2e24b434fb0a6deb38ca0a42e1e757f535998c", func := "acme/acmetop.TopLossFlange", spec := "topLossFlange", unfollowed := true, recurses := true, apart := false }
def TopLossFlangeSaid : Prop := topLossFlangeRow.holds Try.pinned (OpenSpec.ofChange topLossFlangeSpec)

/-- ITS FALSE NEIGHBOUR: 'it returns false'. Refute it at one input. -/
def topLossFlangeWrong : ChangeSpec := { name := "topLossFlange", fn := fun _ => fun
  | [d1, d2, d3] => { results := [.lit (.bool false)], args := [d1, d2, d3] }
  | _ => none }
def TopLossFlangeWrongFalsely : Prop := topLossFlangeRow.holds Try.pinned (OpenSpec.ofChange topLossFlangeWrong)

/- THE SECOND FORM. 'bulk': how many values and letters a reading holds, each counted each time it is reached (what is shared counts as often as it is met; a slice's spare places count too). A statement '..UptoSaid' is the law's where the arguments, and the package variables that the reading takes, are together of bulk at most 1048576: NARROWER than '..Said'. Prove '..Said' where nothing that the law and all that it calls make is longer than what came in: it says more and counts as full. Else prove '..UptoSaid'. A law counts once. -/
mutual
def uptoBulk {H : Type} : DataW H → Nat
  | .lit (.string bytes) => bytes.length + 1
  | .lit _ => 1
  | .nil => 1
  | .ptr d => uptoBulk d + 1
  | .slice elems spare => uptoBulkAll elems + uptoBulkAll spare + 1
  | .agg parts => uptoBulkAll parts + 1
  | .iface _ d => uptoBulk d + 1
  | .map entries => uptoBulkEntries entries + 1
  | .held _ => 1
def uptoBulkAll {H : Type} : List (DataW H) → Nat
  | [] => 0
  | d :: r => uptoBulk d + uptoBulkAll r
def uptoBulkEntries {H : Type} : List (Lit × DataW H) → Nat
  | [] => 0
  | x :: r => uptoBulkEntry x + uptoBulkEntries r
def uptoBulkEntry {H : Type} : Lit × DataW H → Nat
  | (.string bytes, d) => bytes.length + uptoBulk d + 1
  | (_, d) => uptoBulk d + 1
 end
def uptoSmall : (H : Type) → List (DataW H) → Bool := fun _ ds => decide (uptoBulkAll ds ≤ 1048576)
def OpenSpec.upto (s : _root_.Go.ChangeSpec) : _root_.Go.OpenSpec := { _root_.Go.OpenSpec.ofChange s with cond := some uptoSmall }

/-- 'acmelaw09.BoltForces', WHERE WHAT IT READS IS OF BULK AT MOST 1048576: true; the input reads as it did. -/
def boltForcesUptoRow : OpenClaim := { program := "ytgnmdknbnkljbaa", sum := "49b55cb92210f9095f6671672b2e24b434fb0a6deb38ca0a42e1e757f535998c", func := "acme/acmelaw09.BoltForces", spec := "boltForces", unfollowed := true, recurses := true, apart := false, narrowed := true }
def BoltForcesUptoSaid : Prop := boltForcesUptoRow.holds Try.pinned (OpenSpec.upto boltForcesSpec)

/-- 'acmelaw09.BoltTorques', WHERE WHAT IT READS IS OF BULK AT MOST 1048576: true; the input reads as it did. -/
def boltTorquesUptoRow : OpenClaim := { program := "ytgnmdknbnkljbaa", sum := "49b55cb92210f9095f6671672b2e24b434fb0a6deb38ca0a42e1e757f535998c", func := "acme/acmelaw09.BoltTorques", spec := "boltTorques", unfollowed := true, recurses := true, apart := false, narrowed := true }
def BoltTorquesUptoSaid : Prop := boltTorquesUptoRow.holds Try.pinned (OpenSpec.upto boltTorquesSpec)

/-- 'acmelaw09.BoltBests', WHERE WHAT IT READS IS OF BULK AT MOST 1048576: true; the input reads as it did. -/
def boltBestsUptoRow : OpenClaim := { program := "ytgnmdknbnkljbaa", sum := "49b55cb92210f9095f6671672b2e24b434fb0a6deb38ca0a42e1e757f535998c", func := "acme/acmelaw09.BoltBests", spec := "boltBests", unfollowed := true, recurses := true, apart := false, narrowed := true }
def BoltBestsUptoSaid : Prop := boltBestsUptoRow.holds Try.pinned (OpenSpec.upto boltBestsSpec)

/-- 'acmelaw09.BoltLooses', WHERE WHAT IT READS IS OF BULK AT MOST 1048576: true; the input reads as it did. -/
def boltLoosesUptoRow : OpenClaim := { program := "ytgnmdknbnkljbaa", sum := "49b55cb92210f9095f6671672b2e24b434fb0a6deb38ca0a42e1e757f535998c", func := "acme/acmelaw09.BoltLooses", spec := "boltLooses", unfollowed := true, recurses := true, apart := false, narrowed := true }
def BoltLoosesUptoSaid : Prop := boltLoosesUptoRow.holds Try.pinned (OpenSpec.upto boltLoosesSpec)

/-- 'acmelaw09.BoltLearns', WHERE WHAT IT READS IS OF BULK AT MOST 1048576: true; the input reads as it did. -/
def boltLearnsUptoRow : OpenClaim := { program := "ytgnmdknbnkljbaa", sum := "49b55cb92210f9095f6671672b2e24b434fb0a6deb38ca0a42e1e757f535998c", func := "acme/acmelaw09.BoltLearns", spec := "boltLearns", unfollowed := true, recurses := true, apart := false, narrowed := true }
def BoltLearnsUptoSaid : Prop := boltLearnsUptoRow.holds Try.pinned (OpenSpec.upto boltLearnsSpec)

/-- 'acmelaw09.BoltNarrows', WHERE WHAT IT READS IS OF BULK AT MOST 1048576: true; the input reads as it did. -/
def boltNarrowsUptoRow : OpenClaim := { program := "ytgnmdknbnkljbaa", sum := "49b55cb92210f9095f6671672b2e24b434fb0a6deb38ca0a42e1e757f535998c", func := "acme/acmelaw09.BoltNarrows", spec := "boltNarrows", unfollowed := true, recurses := true, apart := false, narrowed := true }
def BoltNarrowsUptoSaid : Prop := boltNarrowsUptoRow.holds Try.pinned (OpenSpec.upto boltNarrowsSpec)

/-- 'acmetop.TopRightFlange', WHERE WHAT IT READS IS OF BULK AT MOST 1048576: true; the input reads as it did. -/
def topRightFlangeUptoRow : OpenClaim := { program := "ytgnmdknbnkljbaa", sum := "49b55cb92210f9095f6671672b2e24b434fb0a6deb38ca0a42e1e757f535998c", func := "acme/acmetop.TopRightFlange", spec := "topRightFlange", unfollowed := true, recurses := true, apart := false, narrowed := true }
def TopRightFlangeUptoSaid : Prop := topRightFlangeUptoRow.holds Try.pinned (OpenSpec.upto topRightFlangeSpec)

/-- 'acmetop.TopBestFlange', WHERE WHAT IT READS IS OF BULK AT MOST 1048576: true; the input reads as it did. -/
def topBestFlangeUptoRow : OpenClaim := { program := "ytgnmdknbnkljbaa", sum := "49b55cb92210f9095f6671672b2e24b434fb0a6deb38ca0a42e1e757f535998c", func := "acme/acmetop.TopBestFlange", spec := "topBestFlange", unfollowed := true, recurses := true, apart := false, narrowed := true }
def TopBestFlangeUptoSaid : Prop := topBestFlangeUptoRow.holds Try.pinned (OpenSpec.upto topBestFlangeSpec)

/-- 'acmetop.TopLossFlange', WHERE WHAT IT READS IS OF BULK AT MOST 1048576: true; the input reads as it did. -/
def topLossFlangeUptoRow : OpenClaim := { program := "ytgnmdknbnkljbaa", sum := "49b55cb92210f9095f6671672b2e24b434fb0a6deb38ca0a42e1e757f535998c", func := "acme/acmetop.TopLossFlange", spec := "topLossFlange", unfollowed := true, recurses := true, apart := false, narrowed := true }
def TopLossFlangeUptoSaid : Prop := topLossFlangeUptoRow.holds Try.pinned (OpenSpec.upto topLossFlangeSpec)

end Rows
end Go.Proofs.Ytgnmdknbnkljbaa
