/- bolt.Learn: true frictions lie in what it returns. Made by tools/cxvc.py. -/
import Derived.Test.YtknphpihipkdpaaBLearnD
set_option linter.unusedSimpArgs false
set_option linter.unusedVariables false
set_option maxRecDepth 100000
set_option maxHeartbeats 4000000
namespace Go.Proofs.Ytknphpihipkdpaa.Cx
open Go Go.RowKit

def blen00 : IE := .bin .add .i64 (.v 20) (.c 1)
def blen01 : IE := .bin .mn .i64 (.v 21) (.v 20)
def blen02 : IE := .bin .mx .i64 (.v 22) (.v 20)
def blen03 : IE := .bin .mul .i64 (.v 1) (.v 3)
def blen04 : IE := .bin .mul .i64 (.v 2) (.v 5)
def blen05 : IE := .bin .add .i64 blen03 blen04
def blen06 : IE := .bin .mul .i64 (.c 1000) (.v 0)
def blen07 : IE := .bin .add .i64 blen05 blen06
def blen08 : IE := .bin .mul .i64 (.c 1000) (.v 13)
def blen09 : IE := .bin .add .i64 (.v 16) (.c 1)
def blen010 : IE := .bin .quo .i64 blen08 blen09
def blen011 : IE := .bin .add .i64 blen010 (.c 1)
def blen012 : IE := .bin .mx .i64 blen07 blen011
def blen013 : IE := .bin .mul .i64 (.v 1) (.v 20)
def blen014 : IE := .bin .mul .i64 (.v 2) (.c 0)
def blen015 : IE := .bin .add .i64 blen013 blen014
def blen016 : IE := .bin .add .i64 blen06 blen015
def blen017 : IE := .bin .sub .i64 (.c 0) blen016
def blen018 : IE := .bin .add .i64 blen012 blen017
def blen019 : IE := .bin .quo .i64 blen018 (.v 2)
def blen020 : IE := .bin .add .i64 blen019 (.c 1)
def blen021 : IE := .bin .mx .i64 (.v 5) blen020
def blen022 : IE := .bin .mn .i64 (.v 23) blen021
def blen023 : IE := .bin .add .i64 (.v 25) blen017
def blen024 : IE := .bin .sub .i64 (.c 0) blen023
def blen025 : IE := .bin .quo .i64 blen024 (.v 2)
def blen026 : IE := .bin .add .i64 blen025 (.c 1)
def blen027 : IE := .bin .sub .i64 (.c 0) blen026
def blen028 : IE := .bin .mn .i64 (.v 6) blen027
def blen029 : IE := .bin .mx .i64 (.v 24) blen028
def blen030 : IE := .bin .sub .i64 (.c 0) blen025
def blen031 : IE := .bin .mn .i64 (.v 6) blen030
def blen032 : IE := .bin .mx .i64 (.v 24) blen031
def blen033 : IE := .bin .rem .i64 blen024 (.v 2)
def blen034 : IE := .bin .mx .i64 (.v 5) blen019
def blen035 : IE := .bin .mn .i64 (.v 23) blen034
def blen036 : IE := .bin .rem .i64 blen018 (.v 2)
def blen037 : IE := .bin .mn .i64 (.v 23) (.v 5)
def blen038 : IE := .bin .mx .i64 (.v 24) (.v 6)
noncomputable def blen0Env (x0 x1 x2 x3 x4 x5 x6 x7 x8 x9 x10 x11 x12 x13 x14 x15 x16 x17 x18 x19 x20 x21 x22 x23 x24 x25 : Int) : Env := ⟨fun i => ([x0, x1, x2, x3, x4, x5, x6, x7, x8, x9, x10, x11, x12, x13, x14, x15, x16, x17, x18, x19, x20, x21, x22, x23, x24, x25] : List Int).getD i 0, fun _ => false⟩
noncomputable def blen0VT (x0 x1 x2 x3 x4 x5 x6 x7 x8 x9 x10 x11 x12 x13 x14 x15 x16 x17 x18 x19 x20 x21 x22 x23 x24 x25 : Int) : VT (Lf ablN ablR) :=
 (.ask .leq (.v 20) (.v 4)
 (.ask .gtr (.v 2) (.c 0)
  (.must .neq (.v 2) (.c 0) (.must .neq (.v 2) (.c 0) (.ask .gtr blen036 (.c 0)
     (.must .neq (.v 2) (.c 0) (.must .neq (.v 2) (.c 0) (.ask .gtr blen033 (.c 0)
        (.ask .leq blen021 blen028
         (.leaf (.next (.n0 (blen00.den (blen0Env x0 x1 x2 x3 x4 x5 x6 x7 x8 x9 x10 x11 x12 x13 x14 x15 x16 x17 x18 x19 x20 x21 x22 x23 x24 x25)) (blen01.den (blen0Env x0 x1 x2 x3 x4 x5 x6 x7 x8 x9 x10 x11 x12 x13 x14 x15 x16 x17 x18 x19 x20 x21 x22 x23 x24 x25)) (blen02.den (blen0Env x0 x1 x2 x3 x4 x5 x6 x7 x8 x9 x10 x11 x12 x13 x14 x15 x16 x17 x18 x19 x20 x21 x22 x23 x24 x25)) (blen022.den (blen0Env x0 x1 x2 x3 x4 x5 x6 x7 x8 x9 x10 x11 x12 x13 x14 x15 x16 x17 x18 x19 x20 x21 x22 x23 x24 x25)) (blen029.den (blen0Env x0 x1 x2 x3 x4 x5 x6 x7 x8 x9 x10 x11 x12 x13 x14 x15 x16 x17 x18 x19 x20 x21 x22 x23 x24 x25)) x25) [0, 1, 2, 3]))
         (.leaf (.next (.n0 (blen00.den (blen0Env x0 x1 x2 x3 x4 x5 x6 x7 x8 x9 x10 x11 x12 x13 x14 x15 x16 x17 x18 x19 x20 x21 x22 x23 x24 x25)) x21 x22 x23 x24 x25) [0, 1, 2, 3])))
        (.ask .leq blen021 blen031
         (.leaf (.next (.n0 (blen00.den (blen0Env x0 x1 x2 x3 x4 x5 x6 x7 x8 x9 x10 x11 x12 x13 x14 x15 x16 x17 x18 x19 x20 x21 x22 x23 x24 x25)) (blen01.den (blen0Env x0 x1 x2 x3 x4 x5 x6 x7 x8 x9 x10 x11 x12 x13 x14 x15 x16 x17 x18 x19 x20 x21 x22 x23 x24 x25)) (blen02.den (blen0Env x0 x1 x2 x3 x4 x5 x6 x7 x8 x9 x10 x11 x12 x13 x14 x15 x16 x17 x18 x19 x20 x21 x22 x23 x24 x25)) (blen022.den (blen0Env x0 x1 x2 x3 x4 x5 x6 x7 x8 x9 x10 x11 x12 x13 x14 x15 x16 x17 x18 x19 x20 x21 x22 x23 x24 x25)) (blen032.den (blen0Env x0 x1 x2 x3 x4 x5 x6 x7 x8 x9 x10 x11 x12 x13 x14 x15 x16 x17 x18 x19 x20 x21 x22 x23 x24 x25)) x25) [0, 1, 2, 3]))
         (.leaf (.next (.n0 (blen00.den (blen0Env x0 x1 x2 x3 x4 x5 x6 x7 x8 x9 x10 x11 x12 x13 x14 x15 x16 x17 x18 x19 x20 x21 x22 x23 x24 x25)) x21 x22 x23 x24 x25) [0, 1, 2, 3]))))))
     (.must .neq (.v 2) (.c 0) (.must .neq (.v 2) (.c 0) (.ask .gtr blen033 (.c 0)
        (.ask .leq blen034 blen028
         (.leaf (.next (.n0 (blen00.den (blen0Env x0 x1 x2 x3 x4 x5 x6 x7 x8 x9 x10 x11 x12 x13 x14 x15 x16 x17 x18 x19 x20 x21 x22 x23 x24 x25)) (blen01.den (blen0Env x0 x1 x2 x3 x4 x5 x6 x7 x8 x9 x10 x11 x12 x13 x14 x15 x16 x17 x18 x19 x20 x21 x22 x23 x24 x25)) (blen02.den (blen0Env x0 x1 x2 x3 x4 x5 x6 x7 x8 x9 x10 x11 x12 x13 x14 x15 x16 x17 x18 x19 x20 x21 x22 x23 x24 x25)) (blen035.den (blen0Env x0 x1 x2 x3 x4 x5 x6 x7 x8 x9 x10 x11 x12 x13 x14 x15 x16 x17 x18 x19 x20 x21 x22 x23 x24 x25)) (blen029.den (blen0Env x0 x1 x2 x3 x4 x5 x6 x7 x8 x9 x10 x11 x12 x13 x14 x15 x16 x17 x18 x19 x20 x21 x22 x23 x24 x25)) x25) [0, 1, 2, 3]))
         (.leaf (.next (.n0 (blen00.den (blen0Env x0 x1 x2 x3 x4 x5 x6 x7 x8 x9 x10 x11 x12 x13 x14 x15 x16 x17 x18 x19 x20 x21 x22 x23 x24 x25)) x21 x22 x23 x24 x25) [0, 1, 2, 3])))
        (.ask .leq blen034 blen031
         (.leaf (.next (.n0 (blen00.den (blen0Env x0 x1 x2 x3 x4 x5 x6 x7 x8 x9 x10 x11 x12 x13 x14 x15 x16 x17 x18 x19 x20 x21 x22 x23 x24 x25)) (blen01.den (blen0Env x0 x1 x2 x3 x4 x5 x6 x7 x8 x9 x10 x11 x12 x13 x14 x15 x16 x17 x18 x19 x20 x21 x22 x23 x24 x25)) (blen02.den (blen0Env x0 x1 x2 x3 x4 x5 x6 x7 x8 x9 x10 x11 x12 x13 x14 x15 x16 x17 x18 x19 x20 x21 x22 x23 x24 x25)) (blen035.den (blen0Env x0 x1 x2 x3 x4 x5 x6 x7 x8 x9 x10 x11 x12 x13 x14 x15 x16 x17 x18 x19 x20 x21 x22 x23 x24 x25)) (blen032.den (blen0Env x0 x1 x2 x3 x4 x5 x6 x7 x8 x9 x10 x11 x12 x13 x14 x15 x16 x17 x18 x19 x20 x21 x22 x23 x24 x25)) x25) [0, 1, 2, 3]))
         (.leaf (.next (.n0 (blen00.den (blen0Env x0 x1 x2 x3 x4 x5 x6 x7 x8 x9 x10 x11 x12 x13 x14 x15 x16 x17 x18 x19 x20 x21 x22 x23 x24 x25)) x21 x22 x23 x24 x25) [0, 1, 2, 3])))))))))
  (.ask .lss (.c 0) blen018
   (.leaf (.next (.n0 (blen00.den (blen0Env x0 x1 x2 x3 x4 x5 x6 x7 x8 x9 x10 x11 x12 x13 x14 x15 x16 x17 x18 x19 x20 x21 x22 x23 x24 x25)) x21 x22 x23 x24 x25) [0, 1, 2, 3]))
   (.ask .gtr (.c 0) blen023
    (.leaf (.next (.n0 (blen00.den (blen0Env x0 x1 x2 x3 x4 x5 x6 x7 x8 x9 x10 x11 x12 x13 x14 x15 x16 x17 x18 x19 x20 x21 x22 x23 x24 x25)) x21 x22 x23 x24 x25) [0, 1, 2, 3]))
    (.ask .leq (.v 5) (.v 6)
     (.leaf (.next (.n0 (blen00.den (blen0Env x0 x1 x2 x3 x4 x5 x6 x7 x8 x9 x10 x11 x12 x13 x14 x15 x16 x17 x18 x19 x20 x21 x22 x23 x24 x25)) (blen01.den (blen0Env x0 x1 x2 x3 x4 x5 x6 x7 x8 x9 x10 x11 x12 x13 x14 x15 x16 x17 x18 x19 x20 x21 x22 x23 x24 x25)) (blen02.den (blen0Env x0 x1 x2 x3 x4 x5 x6 x7 x8 x9 x10 x11 x12 x13 x14 x15 x16 x17 x18 x19 x20 x21 x22 x23 x24 x25)) (blen037.den (blen0Env x0 x1 x2 x3 x4 x5 x6 x7 x8 x9 x10 x11 x12 x13 x14 x15 x16 x17 x18 x19 x20 x21 x22 x23 x24 x25)) (blen038.den (blen0Env x0 x1 x2 x3 x4 x5 x6 x7 x8 x9 x10 x11 x12 x13 x14 x15 x16 x17 x18 x19 x20 x21 x22 x23 x24 x25)) x25) [0, 1, 2, 3]))
     (.leaf (.next (.n0 (blen00.den (blen0Env x0 x1 x2 x3 x4 x5 x6 x7 x8 x9 x10 x11 x12 x13 x14 x15 x16 x17 x18 x19 x20 x21 x22 x23 x24 x25)) x21 x22 x23 x24 x25) [0, 1, 2, 3]))))))
 (.ask .gtr (.v 21) (.v 22)
  (.leaf (.done ((0), (0), (0), (0), (9)) []))
  (.leaf (.done (x21, x22, x23, x24, (0)) []))))
theorem blen0_eq (x0 x1 x2 x3 x4 x5 x6 x7 x8 x9 x10 x11 x12 x13 x14 x15 x16 x17 x18 x19 x20 x21 x22 x23 x24 x25 : Int) : ablD x0 x1 x2 x3 x4 x5 x6 x7 x8 x9 x10 x11 x12 x13 x14 x15 x16 (.n0 x20 x21 x22 x23 x24 x25) = (blen0VT x0 x1 x2 x3 x4 x5 x6 x7 x8 x9 x10 x11 x12 x13 x14 x15 x16 x17 x18 x19 x20 x21 x22 x23 x24 x25).dd (blen0Env x0 x1 x2 x3 x4 x5 x6 x7 x8 x9 x10 x11 x12 x13 x14 x15 x16 x17 x18 x19 x20 x21 x22 x23 x24 x25) := by kernel_rfl
end Go.Proofs.Ytknphpihipkdpaa.Cx
