/- acme/acmetop.pubThread returns true, in every world: by the evaluator. Made by tools/cxlaw.py. -/
import Derived.Test.YtmekghjgkkjgoaaCxHand
set_option maxRecDepth 100000
namespace Go.Proofs.Ytmekghjgkkjgoaa.Cx
open Go Go.Proofs Go.RowKit
noncomputable def CxKnPTC : Ctx := ctxOf Try.prog (memo2 136 2 1 memo0)
theorem CxKnPT_run : isTrue (eval CxKnPTC 1000 0 (.call 36 []) .empty) = true := by kernel_rfl
theorem CxKnPT_known : KnownB Try.prog 36 := known_of try_ok (memo2_ok hand_known memo0_ok) (by kernel_rfl) CxKnPT_run
end Go.Proofs.Ytmekghjgkkjgoaa.Cx
