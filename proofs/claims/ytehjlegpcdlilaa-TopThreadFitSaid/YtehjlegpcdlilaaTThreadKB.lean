/- The runs of a law, leaf by leaf. Made by tools/cxparts.py. -/
import Derived.Test.YtehjlegpcdlilaaTThreadTG
import Derived.Test.YtehjlegpcdlilaaCxKnAT
import Derived.Test.YtehjlegpcdlilaaCxKnAF
import Derived.Test.YtehjlegpcdlilaaCxOpen
import Derived.Test.YtehjlegpcdlilaaCxRat
set_option maxRecDepth 100000
set_option linter.unusedVariables false
namespace Go.Proofs.Ytehjlegpcdlilaa.Cx
open Go Go.RowKit
noncomputable def tthread_C : Ctx := ctxOf Try.prog (memoR 50 (memo2 47 2 1 (memoB [10, 11])))
noncomputable def tthread_run : List Nat → Option (BE × List PC) := runOf tthread_C 1000 3 [.agg [.int .u16 (.v 0), .int .u16 (.v 1), .int .u16 (.v 2), .int .i8 (.v 3), .int .i8 (.v 4)], .agg [.int .u16 (.v 5), .int .u16 (.v 6)], .int .u8 (.v 7)]
theorem ok_dead {run : List Nat → Option (BE × List PC)} {o : List Nat} {p : List PC} : DT.ok run .dead o p = true := rfl
theorem ok_ask {run : List Nat → Option (BE × List PC)} {c : BE} {t f : DT} {o : List Nat} {p : List PC} (h1 : DT.ok run t (1 :: o) (.b c true :: p) = true) (h2 : DT.ok run f (0 :: o) (.b c false :: p) = true) : DT.ok run (.ask c t f) o p = true := by
  show (DT.ok run t (1 :: o) (.b c true :: p) && DT.ok run f (0 :: o) (.b c false :: p)) = true
  rw [h1, h2]; rfl
end Go.Proofs.Ytehjlegpcdlilaa.Cx
