/- acme/acmelaw04.known returns true, in every world: by the evaluator. Made by tools/cxlaw.py. -/
import Derived.Test.YtlffofemajfdjaaCxTry
set_option maxRecDepth 100000
namespace Go.Proofs.Ytlffofemajfdjaa.Cx
open Go Go.Proofs Go.RowKit
noncomputable def CxKn04C : Ctx := ctxOf Try.prog memo0
theorem CxKn04_run : isTrue (eval CxKn04C 1000 0 (.call 16 []) .empty) = true := by kernel_rfl
theorem CxKn04_known : KnownB Try.prog 16 := known_of try_ok memo0_ok (by kernel_rfl) CxKn04_run
end Go.Proofs.Ytlffofemajfdjaa.Cx
