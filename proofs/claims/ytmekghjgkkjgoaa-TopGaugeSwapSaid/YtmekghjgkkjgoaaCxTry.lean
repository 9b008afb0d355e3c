/- The program keeps to what the evaluator asks of one. -/
import Derived.Test.YtmekghjgkkjgoaaCxS
import Derived.Test.YtmekghjgkkjgoaaProg
import Derived.WalkKit
set_option maxRecDepth 100000
namespace Go.Proofs.Ytmekghjgkkjgoaa.Cx
open Go Go.Proofs Go.RowKit
theorem try_ok : progOk Try.prog = true := by kernel_rfl
end Go.Proofs.Ytmekghjgkkjgoaa.Cx
