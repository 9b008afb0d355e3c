/- bolt.Learn: true frictions lie in what it returns. Made by tools/cxvc.py. -/
import Derived.Test.YtknphpihipkdpaaABLearn
import Derived.Test.YtknphpihipkdpaaCxVC
set_option linter.unusedSimpArgs false
set_option linter.unusedVariables false
set_option maxRecDepth 100000
set_option maxHeartbeats 4000000
namespace Go.Proofs.Ytknphpihipkdpaa.Cx
open Go Go.RowKit

def bleInv (x0 x1 x2 x3 x4 x5 x6 x7 x8 x9 x10 x11 x12 x13 x14 x15 x16 x17 x18 x19 : Int) : ablN → Prop
 | .n0 p0 p1 p2 p3 p4 p5 => (0 ≤ p0 ∧ p0 ≤ 1001) ∧ (0 ≤ p1 ∧ p1 ≤ 1000) ∧ (0 ≤ p2 ∧ p2 ≤ 1000) ∧ (0 ≤ p3 ∧ p3 ≤ 1000) ∧ (0 ≤ p4 ∧ p4 ≤ 1000) ∧ (0 ≤ p5 ∧ p5 ≤ 1000000000000000000) ∧ (x3 ≤ p0) ∧ (x19 ≤ p5) ∧ (p0 ≤ x4 + 1) ∧ (x17 + 1 ≤ p0 → p1 ≤ x17 ∧ x17 ≤ p2 ∧ p3 ≤ x18 ∧ x18 ≤ p4) ∧ ((p1 = 1000 ∧ p2 = 0 ∧ p3 = 1000 ∧ p4 = 0) ∨ (x3 ≤ p1 ∧ p2 ≤ x4 ∧ x5 ≤ p3 ∧ p4 ≤ x6))

def bleMu (x0 x1 x2 x3 x4 x5 x6 x7 x8 x9 x10 x11 x12 x13 x14 x15 x16 x17 x18 x19 : Int) : ablN → Nat
 | .n0 p0 p1 p2 p3 p4 p5 => (x4 + 1 - p0).toNat

def blePost (x0 x1 x2 x3 x4 x5 x6 x7 x8 x9 x10 x11 x12 x13 x14 x15 x16 x17 x18 x19 : Int) (v : Int × Int × Int × Int × Int) : Prop := (v.2.2.2.2 = 0) ∧ (v.1 ≤ x17 ∧ x17 ≤ v.2.1) ∧ (v.2.2.1 ≤ x18 ∧ x18 ≤ v.2.2.2.1) ∧ (x3 ≤ v.1 ∧ v.2.1 ≤ x4) ∧ (x5 ≤ v.2.2.1 ∧ v.2.2.2.1 ≤ x6) ∧ ((0 ≤ v.1 ∧ v.1 ≤ 1000) ∧ (0 ≤ v.2.1 ∧ v.2.1 ≤ 1000) ∧ (0 ≤ v.2.2.1 ∧ v.2.2.1 ≤ 1000) ∧ (0 ≤ v.2.2.2.1 ∧ v.2.2.2.1 ≤ 1000))

theorem toNat_lt_of {f g : Int} (h : f + 1 ≤ g) (h0 : 1 ≤ g) : f.toNat < g.toNat := by omega

theorem ble_mkn00 {x0 x1 x2 x3 x4 x5 x6 x7 x8 x9 x10 x11 x12 x13 x14 x15 x16 x17 x18 x19 : Int} {e0 f0 : Int} {e1 f1 : Int} {e2 f2 : Int} {e3 f3 : Int} {e4 f4 : Int} {e5 f5 : Int} (E0 : e0 = f0) (E1 : e1 = f1) (E2 : e2 = f2) (E3 : e3 = f3) (E4 : e4 = f4) (E5 : e5 = f5) (h : bleInv x0 x1 x2 x3 x4 x5 x6 x7 x8 x9 x10 x11 x12 x13 x14 x15 x16 x17 x18 x19 (.n0 f0 f1 f2 f3 f4 f5)) : bleInv x0 x1 x2 x3 x4 x5 x6 x7 x8 x9 x10 x11 x12 x13 x14 x15 x16 x17 x18 x19 (.n0 e0 e1 e2 e3 e4 e5) := by
  subst E0 E1 E2 E3 E4 E5; exact h

theorem ble_mkn0 {x0 x1 x2 x3 x4 x5 x6 x7 x8 x9 x10 x11 x12 x13 x14 x15 x16 x17 x18 x19 : Int} {m : Nat} {e0 f0 : Int} {e1 f1 : Int} {e2 f2 : Int} {e3 f3 : Int} {e4 f4 : Int} {e5 f5 : Int} (E0 : e0 = f0) (E1 : e1 = f1) (E2 : e2 = f2) (E3 : e3 = f3) (E4 : e4 = f4) (E5 : e5 = f5) (h : bleInv x0 x1 x2 x3 x4 x5 x6 x7 x8 x9 x10 x11 x12 x13 x14 x15 x16 x17 x18 x19 (.n0 f0 f1 f2 f3 f4 f5) ∧ bleMu x0 x1 x2 x3 x4 x5 x6 x7 x8 x9 x10 x11 x12 x13 x14 x15 x16 x17 x18 x19 (.n0 f0 f1 f2 f3 f4 f5) < m) : bleInv x0 x1 x2 x3 x4 x5 x6 x7 x8 x9 x10 x11 x12 x13 x14 x15 x16 x17 x18 x19 (.n0 e0 e1 e2 e3 e4 e5) ∧ bleMu x0 x1 x2 x3 x4 x5 x6 x7 x8 x9 x10 x11 x12 x13 x14 x15 x16 x17 x18 x19 (.n0 e0 e1 e2 e3 e4 e5) < m := by
  subst E0 E1 E2 E3 E4 E5; exact h

theorem ble_mkR {x0 x1 x2 x3 x4 x5 x6 x7 x8 x9 x10 x11 x12 x13 x14 x15 x16 x17 x18 x19 : Int} {e0 f0 : Int} (E0 : e0 = f0) {e1 f1 : Int} (E1 : e1 = f1) {e2 f2 : Int} (E2 : e2 = f2) {e3 f3 : Int} (E3 : e3 = f3) {e4 f4 : Int} (E4 : e4 = f4) (h : blePost x0 x1 x2 x3 x4 x5 x6 x7 x8 x9 x10 x11 x12 x13 x14 x15 x16 x17 x18 x19 (f0, f1, f2, f3, f4)) : blePost x0 x1 x2 x3 x4 x5 x6 x7 x8 x9 x10 x11 x12 x13 x14 x15 x16 x17 x18 x19 (e0, e1, e2, e3, e4) := by
  subst E0 E1 E2 E3 E4; exact h
end Go.Proofs.Ytknphpihipkdpaa.Cx
