/- The runs of a law, leaf by leaf. Made by tools/cxparts.py. -/
import Derived.Test.YtlijpnjnmapdlaaTZoneTG
import Derived.Test.YtlijpnjnmapdlaaCxKnAZ
import Derived.Test.YtlijpnjnmapdlaaCxKnAF0
import Derived.Test.YtlijpnjnmapdlaaCxOpen
import Derived.Test.YtlijpnjnmapdlaaCxUp
set_option maxRecDepth 100000
set_option linter.unusedVariables false
namespace Go.Proofs.Ytlijpnjnmapdlaa.Cx
open Go Go.RowKit
noncomputable def tzone_C : Ctx := ctxOf Try.prog (memoU 47 (memoB [10, 11]))
noncomputable def tzone_run : List Nat → Option (BE × List PC) := runOf tzone_C 1000 3 [.agg [.int .u16 (.v 0), .int .u16 (.v 1), .int .u16 (.v 2), .int .i8 (.v 3), .int .i8 (.v 4)], .agg [.int .u8 (.v 5), .int .u8 (.v 6), .int .u8 (.v 7), .int .u8 (.v 8)], .agg [.int .u8 (.v 9), .int .u8 (.v 10), .int .u8 (.v 11)]]
theorem ok_dead {run : List Nat → Option (BE × List PC)} {o : List Nat} {p : List PC} : DT.ok run .dead o p = true := rfl
theorem ok_ask {run : List Nat → Option (BE × List PC)} {c : BE} {t f : DT} {o : List Nat} {p : List PC} (h1 : DT.ok run t (1 :: o) (.b c true :: p) = true) (h2 : DT.ok run f (0 :: o) (.b c false :: p) = true) : DT.ok run (.ask c t f) o p = true := by
  show (DT.ok run t (1 :: o) (.b c true :: p) && DT.ok run f (0 :: o) (.b c false :: p)) = true
  rw [h1, h2]; rfl
end Go.Proofs.Ytlijpnjnmapdlaa.Cx
