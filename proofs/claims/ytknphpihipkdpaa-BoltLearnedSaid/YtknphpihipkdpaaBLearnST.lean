/- bolt.Learn: true frictions lie in what it returns. Made by tools/cxvc.py. -/
import Derived.Test.YtknphpihipkdpaaBLearnD
set_option linter.unusedSimpArgs false
set_option linter.unusedVariables false
set_option maxRecDepth 100000
set_option maxHeartbeats 4000000
namespace Go.Proofs.Ytknphpihipkdpaa.Cx
open Go Go.RowKit

def bles0 : IE := .bin .mul .i64 (.v 1) (.v 4)
def bles1 : IE := .bin .mul .i64 (.v 2) (.v 6)
def bles2 : IE := .bin .add .i64 bles0 bles1
def bles3 : IE := .bin .mul .i64 (.c 1000) (.v 0)
def bles4 : IE := .bin .add .i64 bles2 bles3
def bles5 : IE := .bin .mul .i64 (.c 1000) (.v 14)
def bles6 : IE := .bin .quo .i64 bles5 (.v 15)
def bles7 : IE := .bin .mn .i64 bles4 bles6
def bles8 : IE := .bin .add .i64 (.v 16) (.c 1)
noncomputable def blesEnv (x0 x1 x2 x3 x4 x5 x6 x7 x8 x9 x10 x11 x12 x13 x14 x15 x16 x17 x18 x19 : Int) : Env := ⟨fun i => ([x0, x1, x2, x3, x4, x5, x6, x7, x8, x9, x10, x11, x12, x13, x14, x15, x16, x17, x18, x19] : List Int).getD i 0, fun _ => false⟩
noncomputable def blesVT (x0 x1 x2 x3 x4 x5 x6 x7 x8 x9 x10 x11 x12 x13 x14 x15 x16 x17 x18 x19 : Int) : VT (Lf ablN ablR) :=
 (.ask .gtr (.v 0) (.c 0)
 (.ask .lss (.v 0) (.c 0)
  (.leaf (.done ((0), (0), (0), (0), (2)) []))
  (.ask .gtr (.v 0) (.c 100000)
   (.leaf (.done ((0), (0), (0), (0), (2)) []))
   (.ask .lss (.v 1) (.c 0)
    (.leaf (.done ((0), (0), (0), (0), (2)) []))
    (.ask .gtr (.v 1) (.c 100000)
     (.leaf (.done ((0), (0), (0), (0), (2)) []))
     (.ask .lss (.v 2) (.c 0)
      (.leaf (.done ((0), (0), (0), (0), (2)) []))
      (.ask .gtr (.v 2) (.c 100000)
       (.leaf (.done ((0), (0), (0), (0), (2)) []))
       (.ask .leq (.c 0) (.v 3)
        (.ask .leq (.v 3) (.v 4)
         (.ask .leq (.v 4) (.c 1000)
          (.ask .leq (.c 0) (.v 5)
           (.ask .leq (.v 5) (.v 6)
            (.ask .leq (.v 6) (.c 1000)
             (.ask .leq (.c 1) (.v 7)
              (.ask .leq (.v 7) (.v 8)
               (.ask .leq (.v 8) (.c 100000000)
                (.ask .leq (.c 1) (.v 9)
                 (.ask .leq (.v 9) (.v 10)
                  (.ask .leq (.v 10) (.c 100000)
                   (.ask .leq (.c 1) (.v 11)
                    (.ask .leq (.v 11) (.v 12)
                     (.ask .leq (.v 12) (.c 100000000)
                      (.ask .leq (.c 0) (.v 13)
                       (.ask .leq (.v 13) (.v 14)
                        (.ask .leq (.v 14) (.c 10000000000000)
                         (.ask .leq (.c 0) (.v 15)
                          (.ask .leq (.v 15) (.v 16)
                           (.ask .leq (.v 16) (.c 100000000)
                            (.must .neq bles8 (.c 0) (.ask .gtr (.v 15) (.c 0)
                              (.must .neq (.v 15) (.c 0) (.leaf (.next (.n0 x3 (1000) (0) (1000) (0) (bles7.den (blesEnv x0 x1 x2 x3 x4 x5 x6 x7 x8 x9 x10 x11 x12 x13 x14 x15 x16 x17 x18 x19))) [3, 4, 23, 42])))
                              (.leaf (.next (.n0 x3 (1000) (0) (1000) (0) (bles4.den (blesEnv x0 x1 x2 x3 x4 x5 x6 x7 x8 x9 x10 x11 x12 x13 x14 x15 x16 x17 x18 x19))) [3, 4, 23, 42]))))
                            (.leaf (.done ((0), (0), (0), (0), (3)) [])))
                           (.leaf (.done ((0), (0), (0), (0), (3)) [])))
                          (.leaf (.done ((0), (0), (0), (0), (3)) [])))
                         (.leaf (.done ((0), (0), (0), (0), (3)) [])))
                        (.leaf (.done ((0), (0), (0), (0), (3)) [])))
                       (.leaf (.done ((0), (0), (0), (0), (3)) [])))
                      (.leaf (.done ((0), (0), (0), (0), (2)) [])))
                     (.leaf (.done ((0), (0), (0), (0), (2)) [])))
                    (.leaf (.done ((0), (0), (0), (0), (2)) [])))
                   (.leaf (.done ((0), (0), (0), (0), (2)) [])))
                  (.leaf (.done ((0), (0), (0), (0), (2)) [])))
                 (.leaf (.done ((0), (0), (0), (0), (2)) [])))
                (.leaf (.done ((0), (0), (0), (0), (2)) [])))
               (.leaf (.done ((0), (0), (0), (0), (2)) [])))
              (.leaf (.done ((0), (0), (0), (0), (2)) [])))
             (.leaf (.done ((0), (0), (0), (0), (2)) [])))
            (.leaf (.done ((0), (0), (0), (0), (2)) [])))
           (.leaf (.done ((0), (0), (0), (0), (2)) [])))
          (.leaf (.done ((0), (0), (0), (0), (2)) [])))
         (.leaf (.done ((0), (0), (0), (0), (2)) [])))
        (.leaf (.done ((0), (0), (0), (0), (2)) [])))))))))
 (.leaf (.done ((0), (0), (0), (0), (2)) [])))
theorem bles_eq (x0 x1 x2 x3 x4 x5 x6 x7 x8 x9 x10 x11 x12 x13 x14 x15 x16 x17 x18 x19 : Int) : ablD0 x0 x1 x2 x3 x4 x5 x6 x7 x8 x9 x10 x11 x12 x13 x14 x15 x16 = (blesVT x0 x1 x2 x3 x4 x5 x6 x7 x8 x9 x10 x11 x12 x13 x14 x15 x16 x17 x18 x19).dd (blesEnv x0 x1 x2 x3 x4 x5 x6 x7 x8 x9 x10 x11 x12 x13 x14 x15 x16 x17 x18 x19) := by kernel_rfl
end Go.Proofs.Ytknphpihipkdpaa.Cx
