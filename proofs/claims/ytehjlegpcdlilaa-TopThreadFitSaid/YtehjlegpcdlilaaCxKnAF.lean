/- acme/acmetop.armFit returns true, in every world: by the evaluator. Made by tools/cxlaw.py. -/
import Derived.Test.YtehjlegpcdlilaaCxHand
set_option maxRecDepth 100000
namespace Go.Proofs.Ytehjlegpcdlilaa.Cx
open Go Go.Proofs Go.RowKit
noncomputable def CxKnAFC : Ctx := ctxOf Try.prog (memo2 47 2 1 memo0)
theorem CxKnAF_run : isTrue (eval CxKnAFC 1000 0 (.call 11 []) .empty) = true := by kernel_rfl
theorem CxKnAF_known : KnownB Try.prog 11 := known_of try_ok (memo2_ok hand_known memo0_ok) (by kernel_rfl) CxKnAF_run
end Go.Proofs.Ytehjlegpcdlilaa.Cx
