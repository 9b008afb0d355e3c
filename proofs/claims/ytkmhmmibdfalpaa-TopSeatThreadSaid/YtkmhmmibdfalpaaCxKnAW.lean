/- acme/acmetop.armWires returns true, in every world: by the evaluator. Made by tools/cxlaw.py. -/
import Derived.Test.YtkmhmmibdfalpaaCxHand
set_option maxRecDepth 100000
namespace Go.Proofs.Ytkmhmmibdfalpaa.Cx
open Go Go.Proofs Go.RowKit
noncomputable def CxKnAWC : Ctx := ctxOf Try.prog (memo2 99 2 1 memo0)
theorem CxKnAW_run : isTrue (eval CxKnAWC 1000 0 (.call 44 []) .empty) = true := by kernel_rfl
theorem CxKnAW_known : KnownB Try.prog 44 := known_of try_ok (memo2_ok hand_known memo0_ok) (by kernel_rfl) CxKnAW_run
end Go.Proofs.Ytkmhmmibdfalpaa.Cx
