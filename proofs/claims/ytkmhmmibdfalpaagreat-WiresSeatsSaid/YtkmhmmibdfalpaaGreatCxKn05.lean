/- acme/acmelaw05.known returns true, in every world: by the evaluator. Made by tools/cxlaw.py. -/
import Derived.Test.YtkmhmmibdfalpaaGreatCxTry
set_option maxRecDepth 100000
namespace Go.Proofs.YtkmhmmibdfalpaaGreat.Cx
open Go Go.Proofs Go.RowKit
noncomputable def CxKn05C : Ctx := ctxOf Tryz.prog memo0
theorem CxKn05_run : isTrue (eval CxKn05C 1000 0 (.call 6 []) .empty) = true := by kernel_rfl
theorem CxKn05_known : KnownB Tryz.prog 6 := known_of try_ok memo0_ok (by kernel_rfl) CxKn05_run
end Go.Proofs.YtkmhmmibdfalpaaGreat.Cx
