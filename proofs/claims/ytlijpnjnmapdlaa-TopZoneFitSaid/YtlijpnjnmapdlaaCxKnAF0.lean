/- acme/acmetop.armFit returns true, in every world: by the evaluator. Made by tools/cxlaw.py. -/
import Derived.Test.YtlijpnjnmapdlaaCxTry
set_option maxRecDepth 100000
namespace Go.Proofs.Ytlijpnjnmapdlaa.Cx
open Go Go.Proofs Go.RowKit
noncomputable def CxKnAF0C : Ctx := ctxOf Try.prog memo0
theorem CxKnAF0_run : isTrue (eval CxKnAF0C 1000 0 (.call 11 []) .empty) = true := by kernel_rfl
theorem CxKnAF0_known : KnownB Try.prog 11 := known_of try_ok memo0_ok (by kernel_rfl) CxKnAF0_run
end Go.Proofs.Ytlijpnjnmapdlaa.Cx
