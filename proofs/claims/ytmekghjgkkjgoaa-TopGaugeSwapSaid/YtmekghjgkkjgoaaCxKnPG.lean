/- acme/acmetop.pubGauge returns true, in every world: by the evaluator. Made by tools/cxlaw.py. -/
import Derived.Test.YtmekghjgkkjgoaaCxTry
set_option maxRecDepth 100000
namespace Go.Proofs.Ytmekghjgkkjgoaa.Cx
open Go Go.Proofs Go.RowKit
noncomputable def CxKnPGC : Ctx := ctxOf Try.prog memo0
theorem CxKnPG_run : isTrue (eval CxKnPGC 1000 0 (.call 47 []) .empty) = true := by kernel_rfl
theorem CxKnPG_known : KnownB Try.prog 47 := known_of try_ok memo0_ok (by kernel_rfl) CxKnPG_run
end Go.Proofs.Ytmekghjgkkjgoaa.Cx
