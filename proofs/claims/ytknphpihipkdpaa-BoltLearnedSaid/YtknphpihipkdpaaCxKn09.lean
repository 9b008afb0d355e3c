/- acme/acmelaw09.known returns true, in every world: by the evaluator. Made by tools/cxlaw.py. -/
import Derived.Test.YtknphpihipkdpaaCxTry
set_option maxRecDepth 100000
namespace Go.Proofs.Ytknphpihipkdpaa.Cx
open Go Go.Proofs Go.RowKit
noncomputable def CxKn09C : Ctx := ctxOf Try.prog memo0
theorem CxKn09_run : isTrue (eval CxKn09C 1000 0 (.call 21 []) .empty) = true := by kernel_rfl
theorem CxKn09_known : KnownB Try.prog 21 := known_of try_ok memo0_ok (by kernel_rfl) CxKn09_run
end Go.Proofs.Ytknphpihipkdpaa.Cx
