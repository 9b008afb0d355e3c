/- acme/acmetop.pubSwap returns true, in every world: by the evaluator. Made by tools/cxlaw.py. -/
import Derived.Test.YtmekghjgkkjgoaaCxHand
set_option maxRecDepth 100000
namespace Go.Proofs.Ytmekghjgkkjgoaa.Cx
open Go Go.Proofs Go.RowKit
noncomputable def CxKnPSC : Ctx := ctxOf Try.prog (memo2 136 2 1 memo0)
theorem CxKnPS_run : isTrue (eval CxKnPSC 1000 0 (.call 32 []) .empty) = true := by kernel_rfl
theorem CxKnPS_known : KnownB Try.prog 32 := known_of try_ok (memo2_ok hand_known memo0_ok) (by kernel_rfl) CxKnPS_run
end Go.Proofs.Ytmekghjgkkjgoaa.Cx
