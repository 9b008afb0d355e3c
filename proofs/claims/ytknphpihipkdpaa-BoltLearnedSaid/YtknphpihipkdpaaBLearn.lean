/- bolt.Learn: true frictions lie in what it returns. Made by tools/cxvc.py. -/
import Derived.Test.YtknphpihipkdpaaBLearnSTG
import Derived.Test.YtknphpihipkdpaaBLearnN0TG
set_option linter.unusedSimpArgs false
set_option linter.unusedVariables false
set_option maxRecDepth 100000
set_option maxHeartbeats 4000000
namespace Go.Proofs.Ytknphpihipkdpaa.Cx
open Go Go.RowKit

theorem ble_run {x0 x1 x2 x3 x4 x5 x6 x7 x8 x9 x10 x11 x12 x13 x14 x15 x16 x17 x18 x19 : Int} (b_x0 : 1 ≤ x0 ∧ x0 ≤ 100000) (b_x1 : 0 ≤ x1 ∧ x1 ≤ 100000) (b_x2 : 0 ≤ x2 ∧ x2 ≤ 100000) (b_x3 : 0 ≤ x3 ∧ x3 ≤ 1000) (b_x4 : 0 ≤ x4 ∧ x4 ≤ 1000) (b_x5 : 0 ≤ x5 ∧ x5 ≤ 1000) (b_x6 : 0 ≤ x6 ∧ x6 ≤ 1000) (b_x7 : 1 ≤ x7 ∧ x7 ≤ 100000000) (b_x8 : 1 ≤ x8 ∧ x8 ≤ 100000000) (b_x9 : 1 ≤ x9 ∧ x9 ≤ 100000) (b_x10 : 1 ≤ x10 ∧ x10 ≤ 100000) (b_x11 : 1 ≤ x11 ∧ x11 ≤ 100000000) (b_x12 : 1 ≤ x12 ∧ x12 ≤ 100000000) (b_x13 : 0 ≤ x13 ∧ x13 ≤ 10000000000000) (b_x14 : 0 ≤ x14 ∧ x14 ≤ 10000000000000) (b_x15 : 0 ≤ x15 ∧ x15 ≤ 100000000) (b_x16 : 0 ≤ x16 ∧ x16 ≤ 100000000) (b_x17 : 0 ≤ x17 ∧ x17 ≤ 1000) (b_x18 : 0 ≤ x18 ∧ x18 ≤ 1000) (b_x19 : 1000 ≤ x19 ∧ x19 ≤ 300000000) (v0 : x3 ≤ x4) (v1 : x5 ≤ x6) (v5 : x13 ≤ x14) (v6 : x15 ≤ x16) (v7 : x3 ≤ x17) (v8 : x17 ≤ x4) (v9 : x5 ≤ x18) (v10 : x18 ≤ x6) (v2 : x7 ≤ x8) (v3 : x9 ≤ x10) (v4 : x11 ≤ x12) (ha : x19 = 1000 * x0 + x1 * x17 + x2 * x18) (h1 : 1000 * x13 + 1 ≤ x16 * x19 + x19) (h2 : x15 * x19 ≤ 1000 * x14) : ∃ n v, (ablA x0 x1 x2 x3 x4 x5 x6 x7 x8 x9 x10 x11 x12 x13 x14 x15 x16).run n = some v ∧ blePost x0 x1 x2 x3 x4 x5 x6 x7 x8 x9 x10 x11 x12 x13 x14 x15 x16 x17 x18 x19 v := by
  refine AF.run_of (Inv := bleInv x0 x1 x2 x3 x4 x5 x6 x7 x8 x9 x10 x11 x12 x13 x14 x15 x16 x17 x18 x19) (μ := bleMu x0 x1 x2 x3 x4 x5 x6 x7 x8 x9 x10 x11 x12 x13 x14 x15 x16 x17 x18 x19) (fun _ => rfl) (fun a hI => ?_) (bles_sat b_x0 b_x1 b_x2 b_x3 b_x4 b_x5 b_x6 b_x7 b_x8 b_x9 b_x10 b_x11 b_x12 b_x13 b_x14 b_x15 b_x16 b_x17 b_x18 b_x19 v0 v1 v5 v6 v7 v8 v9 v10 v2 v3 v4 ha h1 h2)
  cases a with
  | n0 p0 p1 p2 p3 p4 p5 => exact blen0_sat b_x0 b_x1 b_x2 b_x3 b_x4 b_x5 b_x6 b_x7 b_x8 b_x9 b_x10 b_x11 b_x12 b_x13 b_x14 b_x15 b_x16 b_x17 b_x18 b_x19 v0 v1 v5 v6 v7 v8 v9 v10 v2 v3 v4 ha h1 h2 hI
end Go.Proofs.Ytknphpihipkdpaa.Cx
