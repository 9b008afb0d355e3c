/- acme/acmetop.pubZone returns true, in every world: by the evaluator. Made by tools/cxlaw.py. -/
import Derived.Test.YtmekghjgkkjgoaaCxTry
set_option maxRecDepth 100000
namespace Go.Proofs.Ytmekghjgkkjgoaa.Cx
open Go Go.Proofs Go.RowKit
noncomputable def CxKnPZC : Ctx := ctxOf Try.prog memo0
theorem CxKnPZ_run : isTrue (eval CxKnPZC 1000 0 (.call 42 []) .empty) = true := by kernel_rfl
theorem CxKnPZ_known : KnownB Try.prog 42 := known_of try_ok memo0_ok (by kernel_rfl) CxKnPZ_run
end Go.Proofs.Ytmekghjgkkjgoaa.Cx
