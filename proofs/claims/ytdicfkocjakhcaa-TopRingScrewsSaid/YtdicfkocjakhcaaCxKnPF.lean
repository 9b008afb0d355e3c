/- acme/acmetop.pubFit returns true, in every world: by the evaluator. Made by tools/cxlaw.py. -/
import Derived.Test.YtdicfkocjakhcaaCxTry
set_option maxRecDepth 100000
namespace Go.Proofs.Ytdicfkocjakhcaa.Cx
open Go Go.Proofs Go.RowKit
noncomputable def CxKnPFC : Ctx := ctxOf Try.prog memo0
theorem CxKnPF_run : isTrue (eval CxKnPFC 1000 0 (.call 22 []) .empty) = true := by kernel_rfl
theorem CxKnPF_known : KnownB Try.prog 22 := known_of try_ok memo0_ok (by kernel_rfl) CxKnPF_run
end Go.Proofs.Ytdicfkocjakhcaa.Cx
