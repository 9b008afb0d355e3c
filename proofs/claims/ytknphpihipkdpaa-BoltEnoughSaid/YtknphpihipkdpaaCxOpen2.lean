/- The ranges of uint32. -/
import Derived.Test.YtknphpihipkdpaaCxOpen
namespace Go.Proofs.Ytknphpihipkdpaa
open Go.ChangeShapes Go.WideShapes Go.ChangeAt Go.RowKit
theorem rng_u32 {n : Int} (h : (Lit.int .u32 n).wf = true) : 0 ≤ n ∧ n ≤ 4294967295 := by
  have : IntKind.u32.min ≤ n ∧ n ≤ IntKind.u32.max := by simpa [Lit.wf] using h
  exact this
end Go.Proofs.Ytknphpihipkdpaa
