/- acme/acmetop.pubZone returns true, in every world: by the evaluator. Made by tools/cxlaw.py. -/
import Derived.Test.YtlffofemajfdjaaCxTry
set_option maxRecDepth 100000
namespace Go.Proofs.Ytlffofemajfdjaa.Cx
open Go Go.Proofs Go.RowKit
noncomputable def CxKnPZC : Ctx := ctxOf Try.prog memo0
theorem CxKnPZ_run : isTrue (eval CxKnPZC 1000 0 (.call 51 []) .empty) = true := by kernel_rfl
theorem CxKnPZ_known : KnownB Try.prog 51 := known_of try_ok memo0_ok (by kernel_rfl) CxKnPZ_run
end Go.Proofs.Ytlffofemajfdjaa.Cx
