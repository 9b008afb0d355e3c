/- The program keeps to what the evaluator asks of one. -/
import Derived.Test.YtknphpihipkdpaaCxS
import Derived.Test.YtknphpihipkdpaaProg
import Derived.WalkKit
set_option maxRecDepth 100000
namespace Go.Proofs.Ytknphpihipkdpaa.Cx
open Go Go.Proofs Go.RowKit
theorem try_ok : progOk Try.prog = true := by kernel_rfl
end Go.Proofs.Ytknphpihipkdpaa.Cx
