/- BoltLearned. Made by tools/gen_blaw.py. -/
import Derived.Test.YtknphpihipkdpaaBLearn
set_option linter.unusedSimpArgs false
set_option linter.unusedVariables false
set_option maxRecDepth 100000
set_option maxHeartbeats 4000000
namespace Go.Proofs.Ytknphpihipkdpaa.Cx
open Go Go.RowKit

theorem ble_runE {e0 f0 : Int} {e1 f1 : Int} {e2 f2 : Int} {e3 f3 : Int} {e4 f4 : Int} {e5 f5 : Int} {e6 f6 : Int} {e7 f7 : Int} {e8 f8 : Int} {e9 f9 : Int} {e10 f10 : Int} {e11 f11 : Int} {e12 f12 : Int} {e13 f13 : Int} {e14 f14 : Int} {e15 f15 : Int} {e16 f16 : Int} {e17 f17 : Int} {e18 f18 : Int} {e19 f19 : Int} (E0 : e0 = f0) (E1 : e1 = f1) (E2 : e2 = f2) (E3 : e3 = f3) (E4 : e4 = f4) (E5 : e5 = f5) (E6 : e6 = f6) (E7 : e7 = f7) (E8 : e8 = f8) (E9 : e9 = f9) (E10 : e10 = f10) (E11 : e11 = f11) (E12 : e12 = f12) (E13 : e13 = f13) (E14 : e14 = f14) (E15 : e15 = f15) (E16 : e16 = f16) (E17 : e17 = f17) (E18 : e18 = f18) (E19 : e19 = f19) (h : ∃ n v, (ablA f0 f1 f2 f3 f4 f5 f6 f7 f8 f9 f10 f11 f12 f13 f14 f15 f16).run n = some v ∧ blePost f0 f1 f2 f3 f4 f5 f6 f7 f8 f9 f10 f11 f12 f13 f14 f15 f16 f17 f18 f19 v) : ∃ n v, (ablA e0 e1 e2 e3 e4 e5 e6 e7 e8 e9 e10 e11 e12 e13 e14 e15 e16).run n = some v ∧ blePost e0 e1 e2 e3 e4 e5 e6 e7 e8 e9 e10 e11 e12 e13 e14 e15 e16 e17 e18 e19 v := by
  subst E0 E1 E2 E3 E4 E5 E6 E7 E8 E9 E10 E11 E12 E13 E14 E15 E16 E17 E18 E19; exact h
end Go.Proofs.Ytknphpihipkdpaa.Cx
