/- acme/acmelaw03.known returns true, in every world: by the evaluator. Made by tools/cxlaw.py. -/
import Derived.Test.YtbgmkhcjghmncaaCxTry
set_option maxRecDepth 100000
namespace Go.Proofs.Ytbgmkhcjghmncaa.Cx
open Go Go.Proofs Go.RowKit
noncomputable def CxKn03C : Ctx := ctxOf Try.prog memo0
theorem CxKn03_run : isTrue (eval CxKn03C 1000 0 (.call 8 []) .empty) = true := by kernel_rfl
theorem CxKn03_known : KnownB Try.prog 8 := known_of try_ok memo0_ok (by kernel_rfl) CxKn03_run
end Go.Proofs.Ytbgmkhcjghmncaa.Cx
