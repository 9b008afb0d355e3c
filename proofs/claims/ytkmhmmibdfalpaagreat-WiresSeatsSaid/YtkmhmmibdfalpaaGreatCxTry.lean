/- The program keeps to what the evaluator asks of one. -/
import Derived.Test.YtkmhmmibdfalpaaGreatCxS
import Derived.Test.YtkmhmmibdfalpaaGreatProg
import Derived.WalkKit
set_option maxRecDepth 100000
namespace Go.Proofs.YtkmhmmibdfalpaaGreat.Cx
open Go Go.Proofs Go.RowKit
theorem try_ok : progOk Tryz.prog = true := by kernel_rfl
end Go.Proofs.YtkmhmmibdfalpaaGreat.Cx
