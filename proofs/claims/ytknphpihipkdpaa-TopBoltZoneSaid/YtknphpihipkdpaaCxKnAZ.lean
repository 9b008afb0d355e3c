/- acme/acmetop.armZone returns true, in every world: by the evaluator. Made by tools/cxlaw.py. -/
import Derived.Test.YtknphpihipkdpaaCxTry
set_option maxRecDepth 100000
namespace Go.Proofs.Ytknphpihipkdpaa.Cx
open Go Go.Proofs Go.RowKit
noncomputable def CxKnAZC : Ctx := ctxOf Try.prog memo0
theorem CxKnAZ_run : isTrue (eval CxKnAZC 1000 0 (.call 54 []) .empty) = true := by kernel_rfl
theorem CxKnAZ_known : KnownB Try.prog 54 := known_of try_ok memo0_ok (by kernel_rfl) CxKnAZ_run
end Go.Proofs.Ytknphpihipkdpaa.Cx
