/- acme/acmetop.armSwap returns true, in every world: by the evaluator. Made by tools/cxlaw.py. -/
import Derived.Test.YtknphpihipkdpaaCxHand
set_option maxRecDepth 100000
namespace Go.Proofs.Ytknphpihipkdpaa.Cx
open Go Go.Proofs Go.RowKit
noncomputable def CxKnASC : Ctx := ctxOf Try.prog (memo2 113 2 1 memo0)
theorem CxKnAS_run : isTrue (eval CxKnASC 1000 0 (.call 51 []) .empty) = true := by kernel_rfl
theorem CxKnAS_known : KnownB Try.prog 51 := known_of try_ok (memo2_ok hand_known memo0_ok) (by kernel_rfl) CxKnAS_run
end Go.Proofs.Ytknphpihipkdpaa.Cx
