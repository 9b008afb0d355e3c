/- acme/acmetop.armBolt returns true, in every world: by the evaluator. Made by tools/cxlaw.py. -/
import Derived.Test.YtknphpihipkdpaaCxTry
set_option maxRecDepth 100000
namespace Go.Proofs.Ytknphpihipkdpaa.Cx
open Go Go.Proofs Go.RowKit
noncomputable def CxKnABC : Ctx := ctxOf Try.prog memo0
theorem CxKnAB_run : isTrue (eval CxKnABC 1000 0 (.call 48 []) .empty) = true := by kernel_rfl
theorem CxKnAB_known : KnownB Try.prog 48 := known_of try_ok memo0_ok (by kernel_rfl) CxKnAB_run
end Go.Proofs.Ytknphpihipkdpaa.Cx
