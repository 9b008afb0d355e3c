/- The runs of a law, leaf by leaf. Made by tools/cxparts.py. -/
import Derived.Test.YtbgmkhcjghmncaaFWitnessT
import Derived.Test.YtbgmkhcjghmncaaCxKn03
import Derived.Test.YtbgmkhcjghmncaaCxOpen
import Derived.Test.YtbgmkhcjghmncaaCxUp
set_option maxRecDepth 100000
set_option linter.unusedVariables false
namespace Go.Proofs.Ytbgmkhcjghmncaa.Cx
open Go Go.RowKit
noncomputable def fwitness_C : Ctx := ctxOf Try.prog (memoU 32 (memoB [8]))
noncomputable def fwitness_run : List Nat → Option (BE × List PC) := runOf fwitness_C 1000 3 [.agg [.int .u16 (.v 0), .int .u16 (.v 1), .int .u16 (.v 2), .sln (.v 3), .int .i8 (.v 4), .int .i8 (.v 5)], .agg [.int .i16 (.v 6), .int .i16 (.v 7)], .agg [.int .i8 (.v 8), .int .i8 (.v 9)]]
theorem ok_dead {run : List Nat → Option (BE × List PC)} {o : List Nat} {p : List PC} : DT.ok run .dead o p = true := rfl
theorem ok_ask {run : List Nat → Option (BE × List PC)} {c : BE} {t f : DT} {o : List Nat} {p : List PC} (h1 : DT.ok run t (1 :: o) (.b c true :: p) = true) (h2 : DT.ok run f (0 :: o) (.b c false :: p) = true) : DT.ok run (.ask c t f) o p = true := by
  show (DT.ok run t (1 :: o) (.b c true :: p) && DT.ok run f (0 :: o) (.b c false :: p)) = true
  rw [h1, h2]; rfl
end Go.Proofs.Ytbgmkhcjghmncaa.Cx
