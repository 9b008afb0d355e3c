/- The tests of a law and their arithmetic. Made by tools/cxgoal.py. -/
import Derived.Test.YtlffofemajfdjaaPGaugeT0
import Derived.Test.YtlffofemajfdjaaPGaugeT1
import Derived.Test.YtlffofemajfdjaaPGaugeT2
import Derived.Test.YtlffofemajfdjaaPGaugeT3
import Derived.Test.YtlffofemajfdjaaPGaugeT4
import Derived.Test.YtlffofemajfdjaaPGaugeT5
import Derived.Test.YtlffofemajfdjaaPGaugeT6
set_option linter.unusedSimpArgs false
set_option linter.unusedVariables false
set_option maxRecDepth 100000
set_option maxHeartbeats 4000000
namespace Go.Proofs.Ytlffofemajfdjaa.Cx
open Go Go.RowKit

theorem pg_goal {ρ : Env} {x0 x1 x2 x3 x4 x5 x6 : Int} (e0 : Is ρ (.v 0) x0) (r0 : 0 ≤ x0 ∧ x0 ≤ 255) (e1 : Is ρ (.v 1) x1) (r1 : 0 ≤ x1 ∧ x1 ≤ 255) (e2 : Is ρ (.v 2) x2) (r2 : 0 ≤ x2 ∧ x2 ≤ 255) (e3 : Is ρ (.v 3) x3) (r3 : 0 ≤ x3 ∧ x3 ≤ 255) (e4 : Is ρ (.v 4) x4) (r4 : 0 ≤ x4 ∧ x4 ≤ 255) (e5 : Is ρ (.v 5) x5) (r5 : 0 ≤ x5 ∧ x5 ≤ 255) (e6 : Is ρ (.v 6) x6) (r6 : 0 ≤ x6 ∧ x6 ≤ 65535) : pgTree.goal ρ := by
  have h : x4 % 7 = 0 ∨ x4 % 7 = 1 ∨ x4 % 7 = 2 ∨ x4 % 7 = 3 ∨ x4 % 7 = 4 ∨ x4 % 7 = 5 ∨ x4 % 7 = 6 := by omega
  rcases h with s | s | s | s | s | s | s
  · exact pg_goal0 e0 r0 e1 r1 e2 r2 e3 r3 e4 r4 e5 r5 e6 r6 s
  · exact pg_goal1 e0 r0 e1 r1 e2 r2 e3 r3 e4 r4 e5 r5 e6 r6 s
  · exact pg_goal2 e0 r0 e1 r1 e2 r2 e3 r3 e4 r4 e5 r5 e6 r6 s
  · exact pg_goal3 e0 r0 e1 r1 e2 r2 e3 r3 e4 r4 e5 r5 e6 r6 s
  · exact pg_goal4 e0 r0 e1 r1 e2 r2 e3 r3 e4 r4 e5 r5 e6 r6 s
  · exact pg_goal5 e0 r0 e1 r1 e2 r2 e3 r3 e4 r4 e5 r5 e6 r6 s
  · exact pg_goal6 e0 r0 e1 r1 e2 r2 e3 r3 e4 r4 e5 r5 e6 r6 s
end Go.Proofs.Ytlffofemajfdjaa.Cx
